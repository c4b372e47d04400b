import PyProof.Rows.All
import Wide.All
import OpenK.AllK
import Wide.FinOn
import HandS.ForMost
import HandS.Codes
import HandS.Evl
import HandS.FStr
import HandS.Wide
import HandS.Zip
import HandS.RaiseMore
import HandS.IsInst
import HandS.EndOwn
import HandS.AnyAll
import HandS.GenOver
import HandS.Nested
import HandS.TupAny
import HandS.Deep
import HandS.Style
import HandS.Exc
import HandS.ExcOwn
import HandS.TryOnly
import HandS.WordsExc
import HandS.ExcIs
import HandS.ExcField
import HandS.ExcSuper
import HandS.ExcInit
import KE.KExcSuper
import HandS.HeadWalk
import HandS.StrMore
import HandS.Strs
import HandS.Dict
import HandS.HotCalls
import HandS.More
import HandS.ExcValue
import HandS.Star
import PyProof.ReprRoads
import KE.KEqDict
import KE.GoesEnumKw
import HandS.Replace
import KE.SortData
import KE.KDictZip
import PyProof.Rows.StrRev
import PyProof.SliceStr2
import KE.KDictCopyH
import HandS.SetBool
import PySem.Challenge.RW_leavechain_k80_trees_of_anything
set_option Elab.async false
set_option linter.all false
set_option maxRecDepth 100000
set_option maxHeartbeats 4000000
namespace Lk
open PySem PySem.Spec PyProof.Rows L2 Evl

/-! ### defs as they stand behind the top -/
/-- a def that may be called by its name, with its promise -/
structure Cal (P : Program) (w : World) (K : PySem.W.Frag) (mg : Str → Option Value) (base : Heap) (k : Nat) (x : Str) (sp : Sp) : Prop where
  ex : ∃ (f : Addr) (fd : FuncData) (ps : List Str), FnOk P w K mg base CX0 k f fd ps sp ∧ mg x = some (.ref f) ∧ PySem.W.keepIn K (.ref f) = true ∧ Binds K fd ps []
/-- the def x of the text: it stands at a known place, binds its parameters by place and by all their names -/
structure At (K : PySem.W.Frag) (mg : Str → Option Value) (x : Str) (st : Stmt) (ps : List Str) : Prop where
  ex : ∃ f fd, Fun K x x st f fd ∧ mg x = some (.ref f) ∧ Binds K fd ps []
section
variable {P : Program} {w : World} {K : PySem.W.Frag} {mg : Str → Option Value} {base : Heap}
end
section
variable {P : Program} {w : World} {K : PySem.W.Frag} {mg : Str → Option Value} {base : Heap} {x : Str} {st : Stmt} {ps : List Str} {k : Nat} {sp : Sp}
theorem At.of (A : At K mg x st ps) (h : ∀ f fd, Fun K x x st f fd → FnOk P w K mg base CX0 k f fd ps sp) : Cal P w K mg base k x sp := by
  obtain ⟨f, fd, F1, g, b⟩ := A.ex
  exact ⟨⟨f, fd, ps, h f fd F1, g, F1.kp, b⟩⟩
end
section
variable {X : Cx} {k j : Nat} {x : Str} {sp : Sp} {p pos : Pos} {kws : List Keyword} {ks : List Str} {tk : TA}
theorem pe_c {e : Expr} {es : List Expr} {t : TA} (c : Cal X.prog X.w X.K X.mg X.base k x sp) (hr : Room j X.A) (hk : k ≤ j) (hg : Gl X x) (ha : PA X (e :: es) t)
    (hdb : (x == ("__debug__" : Str)) = false := by decide) (he : starEach (e :: es) X.env = (false, eval e X.env) :: starEach es X.env := by rfl) (hpl : (backTo pos (starEach es X.env)).any (·.1) = false := by rfl) :
    PE X (.Call (.Name x p) (e :: es) [] pos) (tCall sp [] E0 t) := by
  obtain ⟨f, fd, ps, F, hm, kp, b⟩ := c.ex
  exact pe_call F (hr.mono hk) hg hm kp b .nil pass0 ha hdb he hpl
end

/-! ### operators that the layer lacks -/
def CPowW (i j : Int) : Prop := 0 ≤ j ∧ (Builtin.Int.intBits i : Int) * j ≤ 2 ^ 27
section
variable {X : Cx}
theorem op_powW : OpR X (binaryOp .Pow) (rI CPowW fun i j => .int (i ^ j.toNat)) := opI fun _ _ _ _ _ _ _ hc q => pow_int hc.1 hc.2 q
theorem pow_ok {i j : Int} {a : Nat} (ha : i.natAbs < 2 ^ a) (h0 : 0 < a) (hj : 0 ≤ j) (h : (a : Int) * j ≤ 2 ^ 27) : CPowW i j := by
  refine ⟨hj, ?_⟩
  have b : Builtin.Int.intBits i ≤ i.natAbs.log2 + 1 := by
    unfold Builtin.Int.intBits
    split <;> omega
  have l := PySem.Flt.log2_lt_of h0 ha
  have e : Builtin.Int.intBits i ≤ a := by omega
  exact Int.le_trans (Int.mul_le_mul_of_nonneg_right (by omega) hj) h

end

/-! ### readings step by step: what is wanted stays folded -/
section
variable {K : PySem.W.Frag} {σ : L2.St} {H : Hp} {Q : VK} {x y v : V} {ta tb te : TE} {tt tu : TT} {QB : Bool → Hp → Prop} {QA : List V → Hp → Prop} {D : Ends} {t1 t2 : TS} {tr : TA}
end

/-! ### heaps: all is kept, or all but what stands at u -/
section
variable {K : PySem.W.Frag} {u a : Addr} {H H' : Hp} {xs : List V}
end

/-! ### the urn: three ints of which only bounds are known -/
section
variable {X : Cx} {pins : List (Addr × Obj)} {σ : L2.St} {H : Hp} {s : Shared} {u : Addr} {o : HO} {p : Int → Int → Int → Prop}
end
section
variable {K : PySem.W.Frag} {σ : L2.St} {H : Hp} {Q : VK} {x y v : V} {ta tb te : TE} {D : Ends} {tr : TA} {p : Addr} {xs : List V}
theorem small_sz {n : Nat} (h : n ≤ 1000 := by decide) : n ≤ sizeLine := Nat.le_trans h (by decide)
end
/-! ### the draws of the first laws -/
/-! ### the urn behind n draws at most -/
section
variable {p : UP} {u : Addr} {n m : Nat} {H H' : Hp}
end
/-! ### loops and comprehensions, step by step -/
section
variable {K : PySem.W.Frag} {σ : L2.St} {H : Hp} {Q : VK} {x y v : V} {ta tb te : TE} {tt : TT} {D : Ends} {tr : TA} {p : Addr} {xs : List V} {g : TG} {tb' : TS}
end

/-! ### items at a drawn place -/
section
variable {K : PySem.W.Frag} {H : Hp} {Q : VK} {p : Addr} {xs : List V} {i : Int}
end
/-! ### names -/
/-! ### zip -/
/-! ### texts of numbers and of texts -/
section
variable {X : Cx}
end
section
variable {K : PySem.W.Frag} {σ : L2.St} {H : Hp} {Q : VK} {QS : Str → Hp → Prop} {te : TE} {t : TE} {ts : List TE} {acc : Str}
end
section
variable {K : PySem.W.Frag} {σ : L2.St} {H : Hp} {Q : VK} {x : V} {p : Addr} {xs ys : List V} {R : L2.St → Hp → Prop}
end
end Lk

namespace Lk
open PySem PySem.Spec PyProof.Rows L2 Evl

/-! ### tables of code objects: they may grow, what is known of them stays -/
def TabPhi (P : Addr) (h : Heap) : Prop := ∃ ps : Array Value, h.get? P = some { cls := .none, data := .fields ps } ∧ TriplesOk ps.toList
def TabO (P : Addr) : HO := .ext (TabPhi P)
/-- the script: a list whose object is known to the sign -/
def SqX (K : PySem.W.Frag) (H : Hp) (a : Addr) (xs : List V) : Prop := Rd H a (.lst xs) ∨ ∃ its : List Value, K.lookup a = some { cls := .type "list", data := .seq its.toArray } ∧ xs.length ≤ sizeLine ∧ Vals xs its
theorem SqX.l {K : PySem.W.Frag} {H : Hp} {a : Addr} {xs : List V} (h : SqX K H a xs) : SqL K H a xs := by
  rcases h with h | ⟨its, e, z, r⟩
  · exact .inl h
  · exact .inr ⟨_, its.toArray, _, e, rfl, rfl, rfl, by rw [List.size_toArray, ← r.length]; exact z, by simpa using r⟩
section
variable {X : Cx} {pins : List (Addr × Obj)} {σ : L2.St} {H : Hp} {s : Shared} {a : Addr} {xs : List V}
end

/-! ### the law's call, from its promise -/
section
variable {P : Program} {w : World} {K : PySem.W.Frag} {mg mb : Str → Option Value}
/-- what is tracked as the law is entered: the tables, and the script where the top has not written it -/
def entryH (K : PySem.W.Frag) (ts : List Addr) (a : Addr) (o : Obj) (xs : List V) : Hp := fun b => if b ∈ ts then some (TabO b) else if b = a ∧ K.lookup a = none then some (.frz o (.lst xs)) else none
theorem entry_tab {ts : List Addr} {a : Addr} {o : Obj} {xs : List V} {b : Addr} (h : b ∈ ts) : entryH K ts a o xs b = some (TabO b) := if_pos h
theorem entry_some {ts : List Addr} {a : Addr} {o : Obj} {xs : List V} {b : Addr} {u : HO} (h : entryH K ts a o xs b = some u) : (b ∈ ts ∧ u = TabO b) ∨ (b ∉ ts ∧ b = a ∧ K.lookup a = none ∧ u = .frz o (.lst xs)) := by
  unfold entryH at h
  by_cases hb : b ∈ ts
  · rw [if_pos hb] at h
    exact .inl ⟨hb, (Option.some.inj h).symm⟩
  · rw [if_neg hb] at h
    by_cases hc : b = a ∧ K.lookup a = none
    · rw [if_pos hc] at h
      exact .inr ⟨hb, hc.1, hc.2, (Option.some.inj h).symm⟩
    · rw [if_neg hc] at h
      cases h
theorem lawX {k : Nat} {fa a : Addr} {cs : List (Addr × Addr)} {fd : FuncData} {x : Str} {sp : Sp} {s1 : Shared} {vs : List Value} {ns : List Int}
    (KX : K.In s1.heap) (hns : s1.heap.Ns mainGlobals mg) (hb : s1.heap.Ns builtinsNs mb) (hbb : ∀ x : Str, x ≠ "__name__" → mb x = bootBuiltins x) (hlim : s1.heap.NoLimit) (hg : s1.gens = #[])
    (hT : ∀ p ∈ cs, s1.heap.get? p.2 = some { cls := .none, data := .fields #[] }) (nT : ∀ p ∈ cs, K.lookup p.2 = none) (C : ∀ p ∈ cs, PySem.W.CodeHd s1.heap p.1 p.2)
    (hbm : ∃ (bm : Addr) (ob : Obj), mg "__builtins__" = some (.ref bm) ∧ bm ≠ builtinsNs ∧ s1.heap.get? bm = some ob ∧ ob.cls = .type "module" ∧ ob.dict = some builtinsNs ∧ ob.data = .plain)
    (ha : s1.heap.get? a = some { cls := .type "list", data := .seq vs.toArray }) (hi : IntsAre vs ns) (hl : ns.length ≤ sizeLine) (hr : Room k callerA)
    (F : ∀ base : Heap, K.In base → base.Ns mainGlobals mg → (∀ p ∈ cs, GxR.TabB base mg p.1 p.2) → FnOk P w K mg base CX0 k fa fd [x] sp) (hbind : ∀ (s : Shared) (u : Value), BindsTo s fd ⟨[u], []⟩ [(x, u)])
    (hsp : ∀ H : Hp, (∀ p ∈ cs, H p.2 = some (TabO p.2)) → SqX K H a (ns.map V.int) → sp [.ref a] H (fun v H' => v = .bl true ∧ ∀ p ∈ cs, H' p.2 = some (TabO p.2)) fun _ _ _ => False) :
    codeAny (model P w) callerA (.call (.ref fa) ⟨[.ref a], []⟩) (fun r s' => r = .ok (.ret (.bool true)) ∧ OldK s1.heap s'.heap ∧ s'.os = s1.os ∧ AllBare s'.gens) s1 := by
  have rv := vals_ints hi
  have lenV := hi.length
  let ts := cs.map (·.2)
  let H : Hp := entryH K ts a { cls := .type "list", data := .seq vs.toArray } (ns.map V.int)
  have inT : ∀ p ∈ cs, p.2 ∈ ts := fun p hp => List.mem_map.mpr ⟨p, hp, rfl⟩
  have isT : ∀ b : Addr, b ∈ ts → s1.heap.get? b = some { cls := .none, data := .fields #[] } ∧ K.lookup b = none := fun b hb => by
    obtain ⟨p, hp, e⟩ := List.mem_map.mp hb
    rw [← e]
    exact ⟨hT p hp, nT p hp⟩
  have aT : a ∉ ts := fun z => by
    have q := (isT a z).1
    rw [ha] at q
    have z' : Data.seq vs.toArray _ = Data.fields #[] := congrArg Obj.data (Option.some.inj q)
    cases z'
  -- what is neither a list nor an empty table is not tracked
  have free : ∀ {b : Addr} {o : Obj}, s1.heap.get? b = some o → (∀ zs n, o.data ≠ .seq zs n) → o.data ≠ .fields #[] → H b = none := fun {b o} e h1 h2 => by
    cases q : H b with
    | none => rfl
    | some u =>
      rcases entry_some q with ⟨hb, _⟩ | ⟨_, hb, _⟩
      · rw [(isT b hb).1] at e
        cases e
        exact (h2 rfl).elim
      · rw [hb, ha] at e
        cases e
        exact (h1 _ _ rfl).elim
  have freeD : ∀ {b : Addr} {o : Obj} {es : Array DictEntry} {ep : Nat}, s1.heap.get? b = some o → o.data = .dict es ep → H b = none := fun {b o es ep} e d => by
    refine free e (fun zs n z => ?_) fun z => ?_
    · rw [d] at z
      cases z
    · rw [d] at z
      cases z
  have nsK : ∀ {b : Addr} {m : Str → Option Value}, s1.heap.Ns b m → (hidT s1.heap H).Ns b m := fun {b m} ⟨o, es, ep, e, d, r⟩ => ⟨o, es, ep, hidT_get e (freeD e d), d, r⟩
  have hKb : K.In (hidT s1.heap H) := fun b o e => hidT_get (KX b o e) (by
    cases q : H b with
    | none => rfl
    | some u =>
      rcases entry_some q with ⟨hb, _⟩ | ⟨_, hb, hk, _⟩
      · rw [(isT b hb).2] at e
        cases e
      · rw [hb, hk] at e
        cases e)
  have hM : L2.Mod K mg (hidT s1.heap H) := ⟨hKb, nsK hns, ⟨mb, nsK hb, hbb⟩, let ⟨mc, h1, h2⟩ := hlim; ⟨mc, nsK h1, h2⟩⟩
  have TB : ∀ p ∈ cs, GxR.TabB (hidT s1.heap H) mg p.1 p.2 := fun p hp => by
    have hTp := hT p hp
    refine ⟨?_, ?_, fun z => ?_⟩
    · obtain ⟨o, us, file, tf, flags, tg, inF, text, tt, e1, r1, r2, r3, r⟩ := C p hp
      refine ⟨o, us, file, tf, flags, tg, inF, text, tt, hidT_get e1 (free e1 (fun zs n z => ?_) fun z => ?_), r1, r2, r3, r⟩
      · rw [r2] at z
        cases z
      · rw [r2] at z
        cases z
        simp at r3
    · obtain ⟨bm, ob, b1, b2, b3, b4, b5, b6⟩ := hbm
      refine ⟨bm, ob, b1, b2, fun q => ?_, fun q => ?_, hidT_get b3 (free b3 (fun zs n z => ?_) fun z => ?_), b4, b5, b6⟩
      · obtain ⟨o, es, ep, e, hd, _⟩ := hns
        rw [q, e] at b3
        cases b3
        rw [hd] at b6
        cases b6
      · rw [q, hTp] at b3
        cases b3
        cases b6
      · rw [b6] at z
        cases z
      · rw [b6] at z
        cases z
    · obtain ⟨o, es, ep, e, hd, _⟩ := hns
      rw [z, hTp] at e
      cases e
      cases hd
  have hok : HOk P w H s1.heap := fun b u z => by
    rcases entry_some z with ⟨hb, rfl⟩ | ⟨_, rfl, _, rfl⟩
    · have e := (isT b hb).1
      refine ⟨⟨#[], e, True.intro⟩, ⟨_, e⟩, ?_⟩
      rintro h1 h2 ⟨ps, e1, e2⟩ kp
      exact ⟨ps, kp _ e1, e2⟩
    · exact ⟨ha, by rw [List.length_map]; exact hl, vs, _, rv, ha⟩
  have hS : SqX K H a (ns.map V.int) := by
    cases hk : K.lookup a with
    | some o =>
      have e := KX a o hk
      rw [ha] at e
      cases e
      exact .inr ⟨vs, hk, by rw [List.length_map]; exact hl, rv⟩
    | none => exact .inl (.inr ⟨_, show entryH K ts a _ _ a = _ by unfold entryH; rw [if_neg aT, if_pos ⟨rfl, hk⟩]⟩)
  have e0 : Env0 P w K mg (hidT s1.heap H) callerA [] s1 H := ⟨rfl, hM, fun b o e => of_hidT e, Nat.le_of_eq (hidT_size _ _), trivial, fun b hb => absurd (show b ∈ ([] : List Addr) from hb) (by simp), hok, .of_eq hg⟩
  refine codeAny_mono ((F _ hKb (nsK hns) TB).run callerA [] s1 H ⟨[.ref a], []⟩ [.ref a] [.ref a] _ _ hr e0 (hbind s1 (.ref a)) (.cons rfl .nil) (hsp H (fun p hp => entry_tab (inT p hp)) hS)) fun r s' h => ?_
  cases r with
  | error e => exact False.elim h
  | ok fl =>
    cases fl with
    | next => exact False.elim h
    | brk => exact False.elim h
    | cont => exact False.elim h
    | ret u =>
      obtain ⟨v, H', os, bare, un, hok', r', q⟩ := h
      obtain ⟨qv, qT⟩ : v = .bl true ∧ ∀ p ∈ cs, H' p.2 = some (TabO p.2) := q
      subst qv
      obtain rfl : u = Value.bool true := r'
      have key : ∀ b o, b ∉ ts → s1.heap.get? b = some o → s'.heap.get? b = some o := fun b o nb e => by
        cases q : H b with
        | none => exact un.keep b o e q (by intro z; exact absurd (show b ∈ ([] : List Addr) from z) (by simp)) (by simp)
        | some u =>
          rcases entry_some q with ⟨z, _⟩ | ⟨_, rfl, _, rfl⟩
          · exact absurd z nb
          · obtain ⟨e1, _⟩ := hok b _ q
            obtain ⟨e2, _⟩ := hok' b _ (un.frzs b _ _ q)
            rw [e] at e1
            cases e1
            exact e2
      have grown : ∀ p ∈ cs, ∃ more : Array Value, s'.heap.get? p.2 = some { cls := .none, data := .fields more } := fun p hp => by
        obtain ⟨⟨ps, e, _⟩, _, _⟩ := hok' p.2 _ (qT p hp)
        exact ⟨ps, e⟩
      refine ⟨rfl, ⟨fun b o e => ?_, fun b o e => ?_⟩, os, bare⟩
      · by_cases hb : b ∈ ts
        · obtain ⟨p, hp, ep⟩ := List.mem_map.mp hb
          obtain ⟨more, hm⟩ := grown p hp
          have ep' : p.2 = b := ep
          rw [← ep'] at e ⊢
          rw [hT p hp] at e
          cases e
          exact .inr (.inl ⟨((C p hp).tab (hT p hp)).isCodeTable, rfl, #[], more, rfl, by rw [Array.empty_append]; exact hm⟩)
        · exact .inl (key b o hb e)
      · by_cases hb : b ∈ ts
        · obtain ⟨p, hp, ep⟩ := List.mem_map.mp hb
          obtain ⟨more, hm⟩ := grown p hp
          have ep' : p.2 = b := ep
          rw [← ep']
          exact ⟨_, hm⟩
        · exact ⟨o, key b o hb e⟩
end
/-- what is to be shown of a law's def, behind the top -/
def LawAt (l : PySem.W.OpenLaw) (w : World) (K : PySem.W.Frag) (k n : Nat) (x : Str) (mg : Str → Option Value) (h : Heap) (fa : Addr) : Prop :=
  ∃ (fd : FuncData) (cs : List (Addr × Addr)) (sp : Sp), (∀ p ∈ cs, h.get? p.2 = some { cls := .none, data := .fields #[] }) ∧ (∀ p ∈ cs, K.lookup p.2 = none) ∧ (∀ p ∈ cs, PySem.W.CodeHd h p.1 p.2) ∧ (∀ (s : Shared) (u : Value), BindsTo s fd ⟨[u], []⟩ [(x, u)]) ∧
    (∀ (H : Hp) (a : Addr) (ns : List Int), ns.length ≤ n → (∀ z ∈ ns, Builtin.Int.intBits z ≤ 1048576) → (∀ p ∈ cs, H p.2 = some (TabO p.2)) → SqX K H a (ns.map V.int) → sp [.ref a] H (fun v H' => v = .bl true ∧ ∀ p ∈ cs, H' p.2 = some (TabO p.2)) fun _ _ _ => False) ∧
    ∀ base : Heap, K.In base → base.Ns mainGlobals mg → (∀ p ∈ cs, GxR.TabB base mg p.1 p.2) → FnOk l.prog w K mg base CX0 k fa fd [x] sp
theorem walkX {l : PySem.W.OpenLaw} {n k : Nat} {q : Program} {loose : List Str} {XP : (Str → Option Value) → Heap → Prop} {YP : World → Heap → Prop} {d : DefRec} {K : Params → PySem.W.Frag} {x : Str}
    (hn : l.most = some n) (hn2 : n ≤ sizeLine) (hdf : d.params.defaults = []) (hr : Room k callerA) (hY : ∀ (w : World) (h : Heap), YP w h → (K w.params).In h)
    (F : ∀ (w : World) (mg mb : Str → Option Value) (fa : Addr) (s0 : Shared) (h : Heap), PySem.W.Ground q loose [] XP w s0 mg mb h → YP w h → (K w.params).In h → h.Ns mainGlobals mg → mg d.name = some (.ref fa) → LawAt l w (K w.params) k n x mg h fa) :
    PySem.W.WalkO q loose XP YP l.row.toRowW d [] (fun f vs => PySem.call f vs) := by
  refine Att.attach_callB hn hdf fun w s0 s1 mg mb fa o pm cd doc a vs ns G Y ho hd hcd hmg hobj hints hlen hbits hg => ?_
  have KX := hY w _ Y
  obtain ⟨fd, cs, sp, hT, nT, C, hb, hsp, hF⟩ := F w mg mb fa s0 _ G Y KX G.T.g hmg
  exact lawX KX G.T.g G.T.b G.T.builtins G.T.nolimit hg hT nT C G.T.bmain hobj hints (Nat.le_trans hlen hn2) hr hF hb (fun H hH hS => hsp H a ns hlen hbits hH hS)
section
variable {K : PySem.W.Frag} {σ : L2.St} {H : Hp} {Q : VK} {a b : Addr} {xs zs : List V} {ns : List Int}
end
end Lk

namespace Lk
open PySem PySem.Spec PyProof.Rows L2 Evl

/-! ### all, any of a generator expression over a text, a tuple, a list; the tables as TabO -/
section
variable {X : Cx} {pins : List (Addr × Obj)} {σ : L2.St} {H : Hp} {s : Shared}
end
end Lk

namespace Lk
open PySem PySem.Spec PyProof.Rows L2 Evl
section
variable {X : Cx} {pins : List (Addr × Obj)} {σ : L2.St} {H : Hp} {s1 s : Shared} {P : Addr} {Pf : Nat → Value → Prop} {n : Nat}
/-! ### names in the generator's own frame -/
section
variable {scope : Scope} {cenv : Env} {A' : Around} {E' : Value → Shared → Prop} {s₂ : Shared} {m₂ : Str → Option Value} {x : Str} {v u : Value} {p : Pos} {Q : Value → Shared → Prop}
end
/-! ### 'a' <= sign <= 'z' -/
def btw (lo hi : Str) (c : Nat) : Bool := !decide ([c] < lo.cps.toList) && !decide (hi.cps.toList < [c])
/-! ### isinstance(x, str) of texts -/
end
end Lk

namespace Lk
open PySem PySem.Spec PyProof.Rows L2 Evl
/-! ### defs that hold a generator expression: their code object is named -/
section
variable {P : Program} {w : World} {K : PySem.W.Frag} {mg : Str → Option Value} {base : Heap} {x : Str} {st : Stmt} {ps : List Str} {k : Nat} {sp : Sp} {c : Addr}
end
/-! ### the tables, as the top leaves them -/
/-! ### data of any depth in a tuple -/
def rInDT (K : PySem.W.Frag) : R2 := fun x y H Q => ∃ d ds, Dp K H x d ∧ Dp K H y (.tuple ds) ∧ SeqAt.shaped d = true ∧ SeqAt.shaped (.tuple ds) = true ∧ Q (.bl (ds.any fun z => PyData.eqv z d)) H
theorem op_inDT {X : Cx} (hu : X.A.units + 65 < cLine) : OpR X (compareOp .In) (rInDT X.K) := by
  intro pins s σ H x y v u Q I rx ry h
  obtain ⟨d, ds, hd, he, sd, se, q⟩ := h
  obtain ⟨as, r1⟩ := Dp.reads I d x v hd rx
  obtain ⟨bs, r2⟩ := Dp.reads I (.tuple ds) y u he ry
  exact SeqAt.in_tuple_reads r2 r1 (SeqAt.canLay_of_shaped se) (SeqAt.canLay_of_shaped sd) (room_in_shaped sd hu) ⟨.bl _, H, I, rfl, q⟩
/-! ### kinds of a thing -/
end Lk
namespace L2
open PySem
theorem Room.u65 {k : Nat} {A : Around} (r : Room k A) : A.units + 65 < cLine := by have := r.un; omega
end L2
namespace Lk
open PySem PySem.Spec PyProof.Rows L2 Evl
end Lk

namespace Lk
open PySem PySem.Spec PyProof.Rows L2 Evl
section
variable {X : Cx} {pins : List (Addr × Obj)} {σ : L2.St} {H : Hp} {s1 s : Shared} {P : Addr}
end
/-! ### a call by two keywords, the second parameter first -/
section
variable {X : Cx} {k j : Nat} {x a b : Str} {sp : Sp} {p pos : Pos} {kws : List Keyword} {tk : TA}
end
/-! ### in a comprehension's block: K by name -/
section
variable {X : Cx} {K : PySem.W.Frag}
end
/-! ### comprehensions over a tuple, a list: a test and an item that leave the heap -/
end Lk

namespace Lk
open PySem PySem.Spec PyProof.Rows L2 Evl GenW NdefX

/-! ### all, any of a generator expression whose elements may call defs -/
section
variable {X : Cx} {pins : List (Addr × Obj)} {σ : L2.St} {H H1 : Hp} {s s' s4 s5 : Shared} {cenv : Env} {A' : Around} {x : Str} {cs : List Nat} {fp : List Addr} {scope : Scope} {a : Addr} {go : Obj} {m0 : Str → Option Value}
end
end Lk

namespace Lk
open PySem PySem.Spec PyProof.Rows L2 Evl GenW NdefX
section
variable {X : Cx} {A : Around} {elt iter : Expr} {x : Str} {px pos : Pos} {scope : Scope} {it : Addr} {fp : List Addr} {tn : Nat → Heap → Prop} {J : It} {te : TE} {σg : L2.St} {kp : Bool} {QT QF : Hp → Prop} {W : Nat → Nat → Hp → Prop}
end
end Lk

namespace Lk
open PySem PySem.Spec PyProof.Rows L2 Evl GenW NdefX
section
variable {X : Cx} {pins : List (Addr × Obj)} {σ : L2.St} {H : Hp} {s : Shared}
end
end Lk

/-! Fx: values as trees, what a frame owns; the readings of expressions and statements over these -/
namespace Fx
open PySem PySem.Spec PyProof.Rows L2 Evl Lk

/-- a built-in class; a class of the program; an exception that was caught: its class, the number that it bears -/
inductive Tk where
  | bt (n : String) | cls (C : Addr) | exc (C : Addr) (row : Option Int)
instance : Coe String Tk := ⟨.bt⟩
/-- a value that is not changed any more, as a tree -/
inductive D where
  | non | bl (b : Bool) | int (i : Int) | str (x : Str) | ty (n : Tk)
  | lst (ds : List D) | tup (ds : List D) | dic (ks : List Key) (ds : List D)
/-- a thing that is owned: a list, a dict, an instance; or a value -/
inductive O where
  | f (d : D) | lst (ds : List D) | dic (ks : List Key) (os : List O) | ins (C : Addr) (ns : List Str) (os : List O)
/-- a slot -/
inductive Sl where
  | f (d : D) | own (o : O) | vw (o : O)
abbrev Env := List (Option Sl)
/-- an exception in the air: its class, the number that it bears -/
structure Xv where
  C : Addr
  row : Option Int
/-- a def's run: what is known of the top, the tables, the state at its entry, the slots that keep their things -/
structure Gx where
  K : PySem.W.Frag
  tabs : List Addr
  T0 : Addr → Prop
  H0 : Hp
  P0 : Addr → Prop
  σ0 : L2.St
  prot : Nat → Bool
  /-- what is wanted of an exception, of the frame behind it; what stands and is kept till then -/
  xw : Xv → Env → Prop
  hx : Hp

/-- an exception that was caught, as an object -/
def ExT (a C : Addr) (d : Option Addr) : HO := .ext fun h => ∃ (oe : Obj) (vs : Array Value), h.get? a = some oe ∧ oe.cls = .ref C ∧ oe.dict = d ∧ oe.data = .fields vs
/-- what it bears -/
def RowR (H : Hp) (d : Option Addr) : Option Int → Prop
  | none => d = none
  | some r => ∃ dd, d = some dd ∧ H dd = some (.xd [("row", .int r)])
mutual
inductive Fz (K : PySem.W.Frag) (H : Hp) : V → D → Prop
  | non : Fz K H .non .non
  | bl (b : Bool) : Fz K H (.bl b) (.bl b)
  | int (i : Int) : Fz K H (.int i) (.int i)
  | str (x : Str) : Fz K H (.str x) (.str x)
  | ty (n : String) : Fz K H (.ty n) (.ty n)
  | cls (C : Addr) : Fz K H (.ref C) (.ty (.cls C))
  | exc {a C : Addr} {d : Option Addr} {row : Option Int} : H a = some (ExT a C d) → RowR H d row → Fz K H (.ref a) (.ty (.exc C row))
  | lst {a : Addr} {vs : List V} {ds : List D} : SqL K H a vs → FzL K H vs ds → Fz K H (.ref a) (.lst ds)
  | tup {a : Addr} {vs : List V} {ds : List D} : SqT K H a vs → FzL K H vs ds → Fz K H (.ref a) (.tup ds)
  | dic {a : Addr} {ks : List Key} {vs : List V} {ds : List D} : Rd H a (.dK (ks.zip vs)) → ks.length = vs.length → FzL K H vs ds → Fz K H (.ref a) (.dic ks ds)
inductive FzL (K : PySem.W.Frag) (H : Hp) : List V → List D → Prop
  | nil : FzL K H [] []
  | cons {v : V} {vs : List V} {d : D} {ds : List D} : Fz K H v d → FzL K H vs ds → FzL K H (v :: vs) (d :: ds)
end
theorem RowR.ex {H H' : Hp} {d : Option Addr} (e : Ex H H') : ∀ {r : Option Int}, RowR H d r → RowR H' d r
  | none, h => h
  | some _, ⟨dd, h1, h2⟩ => ⟨dd, h1, e _ _ h2⟩
section
variable {K : PySem.W.Frag} {H H' : Hp}
mutual
theorem Fz.ex (e : Ex H H') : ∀ {d : D} {v : V}, Fz K H v d → Fz K H' v d
  | .non, _, h => by cases h; exact .non
  | .bl b, _, h => by cases h; exact .bl b
  | .int i, _, h => by cases h; exact .int i
  | .str x, _, h => by cases h; exact .str x
  | .ty (.bt n), _, h => by cases h; exact .ty n
  | .ty (.cls C), _, h => by cases h; exact .cls C
  | .ty (.exc C r), _, h => by cases h with | exc a b => exact .exc (e _ _ a) (b.ex e)
  | .lst ds, _, h => by cases h with | lst a b => exact .lst (ex_l e a) (FzL.ex e b)
  | .tup ds, _, h => by cases h with | tup a b => exact .tup (ex_t e a) (FzL.ex e b)
  | .dic ks ds, _, h => by cases h with | dic a l b => exact .dic (ex_rd e a) l (FzL.ex e b)
theorem FzL.ex (e : Ex H H') : ∀ {ds : List D} {vs : List V}, FzL K H vs ds → FzL K H' vs ds
  | [], _, h => by cases h; exact .nil
  | d :: ds, _, h => by cases h with | cons a b => exact .cons (Fz.ex e a) (FzL.ex e b)
end
theorem FzL.length {vs : List V} {ds : List D} (h : FzL K H vs ds) : vs.length = ds.length := by
  induction ds generalizing vs with
  | nil => cases h; rfl
  | cons d ds ih => cases h with | cons a b => simp only [List.length_cons, ih b]
theorem FzL.get {vs : List V} {ds : List D} (h : FzL K H vs ds) {i : Nat} {v : V} {d : D} (hv : vs[i]? = some v) (hd : ds[i]? = some d) : Fz K H v d := by
  induction ds generalizing vs i with
  | nil => cases hd
  | cons e ds ih => cases h with
    | cons a b => cases i with
      | zero => cases hv; cases hd; exact a
      | succ i => exact ih b (by simpa using hv) (by simpa using hd)
theorem FzL.append {vs ws : List V} {ds es : List D} (h : FzL K H vs ds) (g : FzL K H ws es) : FzL K H (vs ++ ws) (ds ++ es) := by
  induction ds generalizing vs with
  | nil => cases h; exact g
  | cons d ds ih => cases h with | cons a b => exact .cons a (ih b)
theorem FzL.take {vs : List V} {ds : List D} (n : Nat) (h : FzL K H vs ds) : FzL K H (vs.take n) (ds.take n) := by
  induction ds generalizing vs n with
  | nil => cases h; simp; exact .nil
  | cons d ds ih => cases h with
    | cons a b => cases n with
      | zero => exact .nil
      | succ n => exact .cons a (ih n b)
theorem FzL.drop {vs : List V} {ds : List D} (n : Nat) (h : FzL K H vs ds) : FzL K H (vs.drop n) (ds.drop n) := by
  induction ds generalizing vs n with
  | nil => cases h; simp; exact .nil
  | cons d ds ih => cases h with
    | cons a b => cases n with
      | zero => exact .cons a b
      | succ n => exact ih n b
theorem FzL.set {vs : List V} {ds : List D} {v : V} {d : D} (h : FzL K H vs ds) (r : Fz K H v d) (i : Nat) : FzL K H (vs.set i v) (ds.set i d) := by
  induction ds generalizing vs i with
  | nil => cases h; exact .nil
  | cons e ds ih => cases h with
    | cons a b => cases i with
      | zero => exact .cons r b
      | succ i => exact .cons a (ih b i)
end

open Classical in
/-- the heap without what is owned -/
noncomputable def hid (T : Addr → Prop) (H : Hp) : Hp := fun a => if T a then none else H a
section
variable {T T' : Addr → Prop} {H H' : Hp} {a : Addr} {o : HO}
theorem hid_of (h : H a = some o) (n : ¬ T a) : hid T H a = some o := by unfold hid; rw [if_neg n]; exact h
theorem hid_some (h : hid T H a = some o) : H a = some o ∧ ¬ T a := by
  unfold hid at h
  by_cases n : T a
  · rw [if_pos n] at h; cases h
  · rw [if_neg n] at h; exact ⟨h, n⟩
theorem hid_ex : Ex (hid T H) H := fun _ _ h => (hid_some h).1
end

/-- what changed: P alone; T' is what is owned then -/
structure Chg (T : Addr → Prop) (H : Hp) (P : Addr → Prop) (T' : Addr → Prop) (H' : Hp) : Prop where
  keep : ∀ a o, H a = some o → ¬ P a → H' a = some o
  tk : ∀ a, T a → ¬ P a → T' a
  tf : ∀ a, T' a → T a ∨ H a = none
  tr : ∀ a, T' a → H' a ≠ none
  dom : ∀ a, H a ≠ none → H' a ≠ none
def Sub (T P : Addr → Prop) : Prop := ∀ a, P a → T a
abbrev Trk (T : Addr → Prop) (H : Hp) : Prop := ∀ a, T a → H a ≠ none
section
variable {T T1 T2 P P1 P2 : Addr → Prop} {H H1 H2 : Hp}
theorem Chg.refl (t : Trk T H) : Chg T H P T H := ⟨fun _ _ h _ => h, fun _ h _ => h, fun _ h => .inl h, t, fun _ h => h⟩
theorem Chg.trans (t : Trk T H) (a : Chg T H P T1 H1) (b : Chg T1 H1 P1 T2 H2) (s : ∀ a, P1 a → P a ∨ H a = none) : Chg T H P T2 H2 where
  keep := fun x o h n => b.keep x o (a.keep x o h n) fun z => by
    rcases s x z with z | z
    · exact n z
    · rw [z] at h; cases h
  tk := fun x h n => b.tk x (a.tk x h n) fun z => by
    rcases s x z with z | z
    · exact n z
    · exact t x h z
  tf := fun x h => by
    rcases b.tf x h with z | z
    · exact a.tf x z
    · refine .inr ?_
      cases e : H x with
      | none => rfl
      | some o => exact absurd z (a.dom x (by rw [e]; exact nofun))
  tr := b.tr
  dom := fun x h => b.dom x (a.dom x h)
theorem Chg.hid (c : Chg T H P T1 H1) (s : Sub T P) : Ex (hid T H) (hid T1 H1) := fun a o h => by
  obtain ⟨h1, h2⟩ := hid_some h
  refine hid_of (c.keep a o h1 fun z => h2 (s a z)) fun z => ?_
  rcases c.tf a z with z | z
  · exact h2 z
  · rw [z] at h1; cases h1
theorem Chg.weak (c : Chg T H P T1 H1) (s : ∀ a, P a → P1 a) : Chg T H P1 T1 H1 := ⟨fun a o h n => c.keep a o h fun z => n (s a z), fun a h n => c.tk a h fun z => n (s a z), c.tf, c.tr, c.dom⟩
/-- .. that is owned -/
theorem Chg.newOwn {p : Addr} {o : HO} (t : Trk T H) (h : H p = none) : Chg T H P (fun a => T a ∨ a = p) (upd H p o) where
  keep := fun a u e _ => by rw [upd_ne (ne_of_none e h)]; exact e
  tk := fun _ h _ => .inl h
  tf := fun a ha => by
    rcases ha with ha | rfl
    · exact .inl ha
    · exact .inr h
  tr := fun a ha => by
    by_cases e : a = p
    · subst e; rw [upd_same]; exact nofun
    · rw [upd_ne e]
      rcases ha with ha | ha
      · exact t a ha
      · exact absurd ha e
  dom := fun a ha => by
    by_cases e : a = p
    · subst e; rw [upd_same]; exact nofun
    · rw [upd_ne e]; exact ha
/-- an owned thing is written -/
theorem Chg.write {p : Addr} {o : HO} (t : Trk T H) (h : P p) : Chg T H P T (upd H p o) where
  keep := fun a u e n => by rw [upd_ne (fun z => n (by rw [z]; exact h))]; exact e
  tk := fun _ h _ => h
  tf := fun _ h => .inl h
  tr := fun a ha => by
    by_cases e : a = p
    · subst e; rw [upd_same]; exact nofun
    · rw [upd_ne e]; exact t a ha
  dom := fun a ha => by
    by_cases e : a = p
    · subst e; rw [upd_same]; exact nofun
    · rw [upd_ne e]; exact ha
end

/-! ### what is owned -/
mutual
inductive Ow (K : PySem.W.Frag) (T : Addr → Prop) (H : Hp) : O → V → List Addr → Prop
  | f {d : D} {v : V} : Fz K (hid T H) v d → Ow K T H (.f d) v []
  | lst {p : Addr} {vs : List V} {ds : List D} : T p → H p = some (.lst vs) → FzL K (hid T H) vs ds → Ow K T H (.lst ds) (.ref p) [p]
  | dic {p : Addr} {ks : List Key} {vs : List V} {os : List O} {fp : List Addr} : T p → H p = some (.dK (ks.zip vs)) → ks.length = vs.length → OwL K T H os vs fp → p ∉ fp → Ow K T H (.dic ks os) (.ref p) (p :: fp)
  | ins {p C dx : Addr} {ns : List Str} {vs : List V} {os : List O} {fp : List Addr} : T p → H p = some (.ins C dx (ns.zip vs)) → ns.length = vs.length → OwL K T H os vs fp → p ∉ fp → Ow K T H (.ins C ns os) (.ref p) (p :: fp)
inductive OwL (K : PySem.W.Frag) (T : Addr → Prop) (H : Hp) : List O → List V → List Addr → Prop
  | nil : OwL K T H [] [] []
  | cons {o : O} {os : List O} {v : V} {vs : List V} {f1 f2 : List Addr} : Ow K T H o v f1 → OwL K T H os vs f2 → (∀ a ∈ f1, a ∉ f2) → OwL K T H (o :: os) (v :: vs) (f1 ++ f2)
end
section
variable {K : PySem.W.Frag} {T T' : Addr → Prop} {H H' : Hp}
mutual
theorem Ow.step (e : Ex (hid T H) (hid T' H')) : ∀ {o : O} {v : V} {fp : List Addr}, (∀ a ∈ fp, ∀ u, H a = some u → H' a = some u) → (∀ a ∈ fp, T a → T' a) → Ow K T H o v fp → Ow K T' H' o v fp
  | .f d, _, _, _, _, h => by cases h with | f a => exact .f (a.ex e)
  | .lst ds, _, _, k, t, h => by cases h with | lst a b c => exact .lst (t _ (by simp) a) (k _ (by simp) _ b) (c.ex e)
  | .dic ks os, _, _, k, t, h => by cases h with | dic a b l c n => exact .dic (t _ (by simp) a) (k _ (by simp) _ b) l (OwL.step e (fun x hx => k x (List.mem_cons_of_mem _ hx)) (fun x hx => t x (List.mem_cons_of_mem _ hx)) c) n
  | .ins C ns os, _, _, k, t, h => by cases h with | ins a b l c n => exact .ins (t _ (by simp) a) (k _ (by simp) _ b) l (OwL.step e (fun x hx => k x (List.mem_cons_of_mem _ hx)) (fun x hx => t x (List.mem_cons_of_mem _ hx)) c) n
theorem OwL.step (e : Ex (hid T H) (hid T' H')) : ∀ {os : List O} {vs : List V} {fp : List Addr}, (∀ a ∈ fp, ∀ u, H a = some u → H' a = some u) → (∀ a ∈ fp, T a → T' a) → OwL K T H os vs fp → OwL K T' H' os vs fp
  | [], _, _, _, _, h => by cases h; exact .nil
  | o :: os, _, _, k, t, h => by cases h with
    | cons a b d => exact .cons (Ow.step e (fun x hx => k x (List.mem_append_left _ hx)) (fun x hx => t x (List.mem_append_left _ hx)) a) (OwL.step e (fun x hx => k x (List.mem_append_right _ hx)) (fun x hx => t x (List.mem_append_right _ hx)) b) d
end
end
section
variable {K : PySem.W.Frag} {T : Addr → Prop} {H : Hp}
mutual
theorem Ow.sub : ∀ {o : O} {v : V} {fp : List Addr}, Ow K T H o v fp → ∀ a ∈ fp, T a
  | .f d, _, _, h => by cases h with | f a => intro x hx; cases hx
  | .lst ds, _, _, h => by cases h with | lst a b c => intro x hx; rw [List.mem_singleton.mp hx]; exact a
  | .dic ks os, _, _, h => by cases h with
    | dic a b l c n =>
      intro x hx
      rcases List.mem_cons.mp hx with rfl | hx
      · exact a
      · exact OwL.sub c x hx
  | .ins C ns os, _, _, h => by cases h with
    | ins a b l c n =>
      intro x hx
      rcases List.mem_cons.mp hx with rfl | hx
      · exact a
      · exact OwL.sub c x hx
theorem OwL.sub : ∀ {os : List O} {vs : List V} {fp : List Addr}, OwL K T H os vs fp → ∀ a ∈ fp, T a
  | [], _, _, h => by cases h; intro x hx; cases hx
  | o :: os, _, _, h => by cases h with
    | cons a b d =>
      intro x hx
      rcases List.mem_append.mp hx with hx | hx
      · exact Ow.sub a x hx
      · exact OwL.sub b x hx
end
end
def SlR (G : Gx) (T : Addr → Prop) (H : Hp) : Sl → V → List Addr → Prop
  | .f d, v, fp => Fz G.K (hid T H) v d ∧ fp = []
  | .own o, v, fp => Ow G.K T H o v fp
  | .vw o, v, fp => Ow G.K T H o v fp
def IsOwn (env : Env) (i : Nat) : Prop := ∃ o, env[i]? = some (some (.own o))
def IsS (env : Env) (i : Nat) : Prop := ∃ s, env[i]? = some (some s)
/-- what the frame may change -/
def OwnP (env : Env) (F : Nat → List Addr) (a : Addr) : Prop := ∃ i, IsOwn env i ∧ a ∈ F i
structure RE (G : Gx) (T : Addr → Prop) (H : Hp) (σ : L2.St) (env : Env) (F : Nat → List Addr) : Prop where
  trk : Trk T H
  tab : ∀ p ∈ G.tabs, H p = some (TabO p) ∧ ¬ T p
  slot : ∀ i s, env[i]? = some (some s) → ∃ v, σ[i]? = some (some v) ∧ SlR G T H s v (F i)
  dis : ∀ i j, i ≠ j → IsOwn env i → IsS env j → ∀ a ∈ F i, a ∉ F j
  st : Chg G.T0 G.H0 G.P0 T H
  ow : ∀ a, OwnP env F a → G.P0 a ∨ G.H0 a = none
  t0 : Trk G.T0 G.H0
  pin : ∀ i, G.prot i = true → σ[i]? = G.σ0[i]?
  len : env.length = σ.length
  hx : Ex G.hx (hid T H)
section
variable {G : Gx} {T T1 T2 : Addr → Prop} {H H1 H2 : Hp} {σ : L2.St} {env env1 env2 : Env} {F F1 F2 : Nat → List Addr} {s : Sl} {v : V} {fp : List Addr}
theorem SlR.sub (h : SlR G T H s v fp) : ∀ a ∈ fp, T a := by
  cases s with
  | f d => obtain ⟨_, rfl⟩ := h; intro a ha; cases ha
  | own o => exact Ow.sub h
  | vw o => exact Ow.sub h
theorem SlR.step (e : Ex (hid T H) (hid T1 H1)) (k : ∀ a ∈ fp, ∀ u, H a = some u → H1 a = some u) (t : ∀ a ∈ fp, T a → T1 a) (h : SlR G T H s v fp) : SlR G T1 H1 s v fp := by
  cases s with
  | f d => exact ⟨h.1.ex e, h.2⟩
  | own o => exact Ow.step e k t h
  | vw o => exact Ow.step e k t h
theorem RE.sub (r : RE G T H σ env F) : Sub T (OwnP env F) := fun a ⟨i, ⟨o, hi⟩, ha⟩ => by
  obtain ⟨v, _, q⟩ := r.slot i _ hi
  exact SlR.sub q a ha
theorem SlR.chg {P : Addr → Prop} (c : Chg T H P T1 H1) (s0 : Sub T P) (n : ∀ a ∈ fp, ¬ P a) (h : SlR G T H s v fp) : SlR G T1 H1 s v fp :=
  h.step (c.hid s0) (fun a ha u e => c.keep a u e (n a ha)) (fun a ha e => c.tk a e (n a ha))
/-- a change elsewhere -/
theorem RE.chg {P : Addr → Prop} (r : RE G T H σ env F) (c : Chg T H P T1 H1) (s0 : Sub T P) (hp : ∀ a, P a → G.P0 a ∨ G.H0 a = none) (n : ∀ i, IsS env i → ∀ a ∈ F i, ¬ P a) : RE G T1 H1 σ env F where
  trk := c.tr
  tab := fun p hp => by
    obtain ⟨h1, h2⟩ := r.tab p hp
    refine ⟨c.keep p _ h1 fun z => h2 (s0 p z), fun z => ?_⟩
    rcases c.tf p z with z | z
    · exact h2 z
    · rw [h1] at z; cases z
  slot := fun i s hi => by
    obtain ⟨v, h1, h2⟩ := r.slot i s hi
    exact ⟨v, h1, h2.chg c s0 (n i ⟨s, hi⟩)⟩
  dis := r.dis
  st := r.st.trans r.t0 c hp
  ow := r.ow
  t0 := r.t0
  pin := r.pin
  len := r.len
  hx := r.hx.trans (c.hid s0)
end
def upF (F : Nat → List Addr) (i : Nat) (fr : List Addr) (j : Nat) : List Addr := if j = i then fr else F j
theorem upF_same {F : Nat → List Addr} {i : Nat} {fr : List Addr} : upF F i fr i = fr := if_pos rfl
theorem upF_ne {F : Nat → List Addr} {i j : Nat} {fr : List Addr} (h : j ≠ i) : upF F i fr j = F j := if_neg h
/-- from a state of the frame to a later one -/
structure Att (G : Gx) (σ : L2.St) (T0 : Addr → Prop) (H0 : Hp) (env0 : Env) (F0 : Nat → List Addr) (T : Addr → Prop) (H : Hp) (env : Env) (F : Nat → List Addr) : Prop where
  chg : Chg T0 H0 (OwnP env0 F0) T H
  re : RE G T H σ env F
  own : ∀ a, OwnP env F a → OwnP env0 F0 a ∨ H0 a = none
  vw : ∀ i o, env[i]? = some (some (.vw o)) → env0[i]? = some (some (.vw o)) ∧ F i = F0 i
section
variable {G : Gx} {T T1 T2 : Addr → Prop} {H H1 H2 : Hp} {σ : L2.St} {env env1 env2 : Env} {F F1 F2 : Nat → List Addr} {s : Sl} {v : V} {fp : List Addr}
theorem Att.refl (r : RE G T H σ env F) : Att G σ T H env F T H env F := ⟨.refl r.trk, r, fun _ h => .inl h, fun _ _ h => ⟨h, rfl⟩⟩
theorem Att.trans (t : Trk T H) (a : Att G σ T H env F T1 H1 env1 F1) (b : Att G σ T1 H1 env1 F1 T2 H2 env2 F2) : Att G σ T H env F T2 H2 env2 F2 := by
  refine ⟨a.chg.trans t b.chg a.own, b.re, fun x hx => ?_, fun i o h => by
    obtain ⟨h1, e1⟩ := b.vw i o h
    obtain ⟨h2, e2⟩ := a.vw i o h1
    exact ⟨h2, e1.trans e2⟩⟩
  rcases b.own x hx with z | z
  · exact a.own x z
  · refine .inr ?_
    cases e : H x with
    | none => rfl
    | some o => exact absurd z (a.chg.dom x (by rw [e]; exact nofun))
end
end Fx

namespace Fx
open PySem PySem.Spec PyProof.Rows L2 Evl Lk

/-- a value whose own list or dict may be owned, its items are not -/
def Cz (K : PySem.W.Frag) (T : Addr → Prop) (H : Hp) (v : V) : D → Prop
  | .lst ds => ∃ a vs, v = .ref a ∧ SqL K H a vs ∧ FzL K (hid T H) vs ds
  | .dic ks ds => ∃ a vs, v = .ref a ∧ Rd H a (.dK (ks.zip vs)) ∧ ks.length = vs.length ∧ FzL K (hid T H) vs ds
  | d => Fz K (hid T H) v d
def O.fds : List O → Option (List D)
  | [] => some []
  | .f d :: os => (O.fds os).map (d :: ·)
  | _ :: _ => none
def O.cd : O → Option D
  | .f d => some d
  | .lst ds => some (.lst ds)
  | .dic ks os => (O.fds os).map (.dic ks)
  | .ins _ _ _ => none
def Sl.cd : Sl → Option D
  | .f d => some d
  | .own o => o.cd
  | .vw o => o.cd
section
variable {K : PySem.W.Frag} {T : Addr → Prop} {H H' : Hp} {v : V} {d : D}
theorem Cz.of (h : Fz K (hid T H) v d) : Cz K T H v d := by
  cases h with
  | lst a b => exact ⟨_, _, rfl, ex_l hid_ex a, b⟩
  | dic a l b => exact ⟨_, _, rfl, ex_rd hid_ex a, l, b⟩
  | non => exact .non
  | bl b => exact .bl b
  | int i => exact .int i
  | str x => exact .str x
  | ty n => exact .ty n
  | cls C => exact .cls C
  | exc a b => exact .exc a b
  | tup a b => exact .tup a b
theorem OwL.fds : ∀ {os : List O} {vs : List V} {fp : List Addr} {ds : List D}, OwL K T H os vs fp → O.fds os = some ds → FzL K (hid T H) vs ds
  | [], _, _, _, h, e => by
    cases h
    cases e
    exact .nil
  | o :: os, _, _, _, h, e => by
    cases h with
    | cons a b _ =>
      cases o with
      | f d =>
        cases a with
        | f a =>
          cases e2 : O.fds os with
          | none => unfold O.fds at e; rw [e2] at e; cases e
          | some es =>
            unfold O.fds at e
            rw [e2] at e
            cases e
            exact .cons a (OwL.fds b e2)
      | _ => cases e
theorem Ow.cz {o : O} {fp : List Addr} (h : Ow K T H o v fp) (e : o.cd = some d) : Cz K T H v d := by
  cases h with
  | f a => cases e; exact .of a
  | lst a b c => cases e; exact ⟨_, _, rfl, SqL.of b, c⟩
  | dic a b l c n =>
    rename_i os _
    have e : (O.fds os).map (D.dic _) = some d := e
    cases e2 : O.fds os with
    | none => rw [e2] at e; cases e
    | some es =>
      rw [e2] at e
      cases e
      exact ⟨_, _, rfl, .inl b, l, c.fds e2⟩
  | ins => cases e
theorem SlR.cz {G : Gx} {s : Sl} {fp : List Addr} (h : SlR G T H s v fp) (e : s.cd = some d) : Cz G.K T H v d := by
  cases s with
  | f d => cases e; exact .of h.1
  | own o => exact Ow.cz h e
  | vw o => exact Ow.cz h e
theorem Cz.fz (h : Cz K T H v d) : Fz K H v d := by
  cases d with
  | lst ds => obtain ⟨a, vs, rfl, b, c⟩ := h; exact .lst b (c.ex hid_ex)
  | dic ks ds => obtain ⟨a, vs, rfl, b, l, c⟩ := h; exact .dic b l (c.ex hid_ex)
  | non => exact Fz.ex hid_ex h
  | bl _ => exact Fz.ex hid_ex h
  | int _ => exact Fz.ex hid_ex h
  | str _ => exact Fz.ex hid_ex h
  | ty _ => exact Fz.ex hid_ex h
  | tup _ => exact Fz.ex hid_ex h
end

/-! ### readings -/
abbrev WE := Env → (Sl → Env → Prop) → Prop
abbrev WP := Env → (Sl → Prop) → Prop
abbrev WT := Env → (Bool → Env → Prop) → Prop
/-- an argument: a value, or a slot that is handed on (owned, or to be looked at) -/
inductive Ag where
  | v (s : Sl) | slot (i : Nat) (own : Bool)
abbrev WA := Env → (List Ag → Env → Prop) → Prop
structure WEnds where
  nx : Env → Prop
  rt : Sl → Env → Prop
  bk : Env → Prop := fun _ => False
  ct : Env → Prop := fun _ => False
abbrev WS := WEnds → Env → Prop
structure WEnds.Le (D D' : WEnds) : Prop where
  nx : ∀ e, D.nx e → D'.nx e
  rt : ∀ s e, D.rt s e → D'.rt s e
  bk : ∀ e, D.bk e → D'.bk e
  ct : ∀ e, D.ct e → D'.ct e
def MonoE (w : WE) : Prop := ∀ env (Q Q' : Sl → Env → Prop), (∀ r e, Q r e → Q' r e) → w env Q → w env Q'
def MonoP (w : WP) : Prop := ∀ env (Q Q' : Sl → Prop), (∀ r, Q r → Q' r) → w env Q → w env Q'
def MonoT (w : WT) : Prop := ∀ env (Q Q' : Bool → Env → Prop), (∀ r e, Q r e → Q' r e) → w env Q → w env Q'
def MonoA (w : WA) : Prop := ∀ env (Q Q' : List Ag → Env → Prop), (∀ r e, Q r e → Q' r e) → w env Q → w env Q'
def MonoS (w : WS) : Prop := ∀ (D D' : WEnds) env, D.Le D' → w D env → w D' env

/-- a result: what is owned of it stands apart -/
structure Res (G : Gx) (T0 : Addr → Prop) (H0 : Hp) (env0 : Env) (F0 : Nat → List Addr) (T : Addr → Prop) (H : Hp) (env : Env) (F : Nat → List Addr) (r : Sl) (v : V) (fr : List Addr) : Prop where
  rel : SlR G T H r v fr
  dis : ∀ o, r = .own o → ∀ i, IsS env i → ∀ a ∈ fr, a ∉ F i
  from_ : ∀ o, r = .own o → ∀ a ∈ fr, OwnP env0 F0 a ∨ H0 a = none
def tW (G : Gx) (w : WE) : TE := fun σ H Q => ∃ T env F, RE G T H σ env F ∧ w env fun r env' => ∀ v T' H' F' fr, Att G σ T H env F T' H' env' F' → Res G T H env F T' H' env' F' r v fr → Q v H'
def tWP (G : Gx) (w : WP) : TE := fun σ H Q => ∃ T env F, RE G T H σ env F ∧ w env fun r => ∀ v H' fr, Ex H H' → RE G T H' σ env F → SlR G T H' r v fr → (∀ o, r ≠ .own o) → Q v H'
def tWT (G : Gx) (w : WT) : TT := fun σ H Q => ∃ T env F, RE G T H σ env F ∧ w env fun b env' => ∀ T' H' F', Att G σ T H env F T' H' env' F' → Q b H'
structure GE (X : Cx) (G : Gx) (e : Expr) (w : WE) : Prop where
  pe : PE X e (tW G w)
  mono : MonoE w
structure GP (X : Cx) (G : Gx) (e : Expr) (w : WP) : Prop where
  pe : PE X e (tWP G w)
  mono : MonoP w
structure GT (X : Cx) (G : Gx) (e : Expr) (w : WT) : Prop where
  pt : PT X e (tWT G w)
  mono : MonoT w
section
variable {X : Cx} {e : Expr}
theorem pe_imp {t t' : TE} (h : PE X e t) (i : ∀ σ H Q, t' σ H Q → t σ H Q) : PE X e t' := ⟨fun pins s σ H Q I q => h.run pins s σ H Q I (i σ H Q q)⟩
theorem pt_imp {t t' : TT} (h : PT X e t) (i : ∀ σ H Q, t' σ H Q → t σ H Q) : PT X e t' := ⟨fun pins s σ H Q I q => h.run pins s σ H Q I (i σ H Q q)⟩
theorem pa_imp {es : List Expr} {t t' : TA} (h : PA X es t) (i : ∀ σ H Q, t' σ H Q → t σ H Q) : PA X es t' := ⟨fun pos pins s σ H Q I q => h.run pos pins s σ H Q I (i σ H Q q)⟩
theorem ps_imp {st : Stmt} {t t' : TS} (h : PS X st t) (i : ∀ D σ H, t' D σ H → t D σ H) : PS X st t' := ⟨fun pins s σ H D I q => h.run pins s σ H D I (i D σ H q)⟩
theorem pss_imp {st : List Stmt} {t t' : TS} (h : PSs X st t) (i : ∀ D σ H, t' D σ H → t D σ H) : PSs X st t' := ⟨fun pins s σ H D I q => h.run pins s σ H D I (i D σ H q)⟩
end
section
variable {G : Gx} {T T' : Addr → Prop} {H H' : Hp} {σ : L2.St} {env : Env} {F : Nat → List Addr} {s : Sl} {v : V} {fr : List Addr}
theorem ex_dom (e : Ex H H') : ∀ a, H a ≠ none → H' a ≠ none := fun a h => by
  cases q : H a with
  | none => exact absurd q h
  | some o => rw [e a o q]; exact nofun
theorem RE.ex (r : RE G T H σ env F) (e : Ex H H') : RE G T H' σ env F :=
  r.chg (P := fun _ => False) ⟨fun a o h _ => e a o h, fun _ h _ => h, fun _ h => .inl h, fun a h => ex_dom e a (r.trk a h), ex_dom e⟩ (fun _ h => h.elim) (fun _ h => h.elim) fun _ _ _ _ h => h
theorem Att.ex (r : RE G T H σ env F) (e : Ex H H') : Att G σ T H env F T H' env F :=
  ⟨⟨fun a o h _ => e a o h, fun _ h _ => h, fun _ h => .inl h, fun a h => ex_dom e a (r.trk a h), ex_dom e⟩, r.ex e, fun _ h => .inl h, fun _ _ h => ⟨h, rfl⟩⟩
theorem hid_mono (e : Ex H H') : Ex (hid T H) (hid T H') := fun a o h => hid_of (e a o (hid_some h).1) (hid_some h).2
/-- a value is kept while the frame goes on -/
theorem Fz.att {T0 : Addr → Prop} {H0 : Hp} {env0 env1 : Env} {F0 F1 : Nat → List Addr} {d : D} (r : RE G T0 H0 σ env0 F0) (a : Att G σ T0 H0 env0 F0 T H env1 F1) (h : Fz G.K (hid T0 H0) v d) : Fz G.K (hid T H) v d := h.ex (a.chg.hid r.sub)
theorem GE.of_pure {X : Cx} {e : Expr} {w : WP} (h : GP X G e w) : GE X G e (fun env Q => w env fun r => Q r env) := by
  refine ⟨pe_imp h.pe fun σ H Q ⟨T, env, F, r, q⟩ => ⟨T, env, F, r, h.mono env _ _ (fun s q v H' fr e r' rel no => ?_) q⟩, fun env Q Q' i q => h.mono env _ _ (fun s z => i s env z) q⟩
  exact q v T H' F fr (Att.ex r e) ⟨rel, fun o z => absurd z (no o), fun o z => absurd z (no o)⟩
end

/-! ### names, constants -/
def wVar (i : Nat) : WP := fun env Q => match env[i]? with
  | some (some (.f d)) => Q (.f d)
  | some (some (.own o)) => Q (.vw o)
  | some (some (.vw o)) => Q (.vw o)
  | _ => False
def wC (d : D) : WP := fun _ Q => Q (.f d)
section
variable {X : Cx} {G : Gx} {e : Expr}
theorem gp_var {i : Nat} (h : PE X e (tVar i)) : GP X G e (wVar i) := by
  refine ⟨pe_imp h fun σ H Q ⟨T, env, F, r, q⟩ => ?_, fun env Q Q' i q => ?_⟩
  · unfold wVar at q
    split at q
    · rename_i d hd
      obtain ⟨v, h1, h2⟩ := r.slot i _ hd
      exact ⟨v, h1, q v H _ (Ex.refl H) r h2 nofun⟩
    · rename_i o ho
      obtain ⟨v, h1, h2⟩ := r.slot i _ ho
      exact ⟨v, h1, q v H _ (Ex.refl H) r h2 nofun⟩
    · rename_i o ho
      obtain ⟨v, h1, h2⟩ := r.slot i _ ho
      exact ⟨v, h1, q v H _ (Ex.refl H) r h2 nofun⟩
    · exact q.elim
  · unfold wVar at q ⊢
    split <;> simp_all
theorem gp_c {d : D} {v : V} (h : PE X e (tC v)) (r : ∀ K H, Fz K H v d) : GP X G e (wC d) := by
  refine ⟨pe_imp h fun σ H Q ⟨T, env, F, r', q⟩ => ?_, fun env Q Q' i q => i _ q⟩
  exact q v H [] (Ex.refl H) r' ⟨r _ _, rfl⟩ nofun
theorem gp_int {i : Int} {j pos} : GP X G (.Constant (.int i) j pos) (wC (.int i)) := gp_c pe_int fun _ _ => .int i
theorem gp_bl {b j pos} : GP X G (.Constant (.bool b) j pos) (wC (.bl b)) := gp_c pe_bl fun _ _ => .bl b
theorem gp_non {j pos} : GP X G (.Constant .none j pos) (wC .non) := gp_c pe_non fun _ _ => .non
theorem gp_str {x j pos} : GP X G (.Constant (.str x) j pos) (wC (.str x)) := gp_c pe_str fun _ _ => .str x
/-- a module's name -/
theorem gp_glob {x : Str} {d : D} {v : V} {pos : Pos} (h : PE X (.Name x pos) (tC v)) (r : ∀ H, Fz G.K H v d) : GP X G (.Name x pos) (wC d) := by
  refine ⟨pe_imp h fun σ H Q ⟨T, env, F, r', q⟩ => ?_, fun env Q Q' i q => i _ q⟩
  exact q v H [] (Ex.refl H) r' ⟨r _, rfl⟩ nofun

/-! ### two values -/
abbrev Op2 := D → D → (D → Prop) → Prop
def MonoO (o : Op2) : Prop := ∀ a b (Q Q' : D → Prop), (∀ d, Q d → Q' d) → o a b Q → o a b Q'
/-- the reading of an operation of two values -/
def rO (G : Gx) (o : Op2) : R2 := fun x y H Q => ∃ T d1 d2, Trk T H ∧ Cz G.K T H x d1 ∧ Cz G.K T H y d2 ∧ o d1 d2 fun d => ∀ v H', Ex H H' → Fz G.K (hid T H') v d → Q v H'
structure OpX (X : Cx) (G : Gx) (f : Value → Value → Sem Value) (o : Op2) : Prop where
  ok : OpR X f (rO G o)
  mono : MonoO o
def wBin (o : Op2) (w1 w2 : WE) : WE := fun env Q => w1 env fun r1 e1 => ∃ d1, r1 = .f d1 ∧ w2 e1 fun r2 e2 => ∃ d2, r2.cd = some d2 ∧ o d1 d2 fun d => Q (.f d) e2
def wBinP (o : Op2) (w1 w2 : WP) : WP := fun env Q => w1 env fun r1 => ∃ d1, r1.cd = some d1 ∧ w2 env fun r2 => ∃ d2, r2.cd = some d2 ∧ o d1 d2 fun d => Q (.f d)
theorem Cz.ex {K : PySem.W.Frag} {T : Addr → Prop} {H H' : Hp} {v : V} {d : D} (h : Cz K T H v d) (e : Ex H H') : Cz K T H' v d := by
  cases d with
  | lst ds => obtain ⟨a, vs, rfl, b, c⟩ := h; exact ⟨a, vs, rfl, ex_l e b, c.ex (hid_mono e)⟩
  | dic ks ds => obtain ⟨a, vs, rfl, b, l, c⟩ := h; exact ⟨a, vs, rfl, ex_rd e b, l, c.ex (hid_mono e)⟩
  | non => exact Fz.ex (hid_mono e) h
  | bl _ => exact Fz.ex (hid_mono e) h
  | int _ => exact Fz.ex (hid_mono e) h
  | str _ => exact Fz.ex (hid_mono e) h
  | ty _ => exact Fz.ex (hid_mono e) h
  | tup _ => exact Fz.ex (hid_mono e) h
variable {a b : Expr} {w1 w2 : WE} {v1 v2 : WP} {o : Op2} {f : Value → Value → Sem Value}
theorem binW (ma : MonoE w1) (mb : MonoE w2) (mo : MonoO o) {σ : L2.St} {H : Hp} {Q : VK} (h : tW G (wBin o w1 w2) σ H Q) : tOp (rO G o) (tW G w1) (tW G w2) σ H Q := by
  obtain ⟨T, env, F, r, q⟩ := h
  refine ⟨T, env, F, r, ma env _ _ (fun r1 e1 ⟨d1, e, q⟩ v1 T1 H1 F1 f1 a1 z1 => ?_) q⟩
  subst e
  refine ⟨T1, e1, F1, a1.re, mb e1 _ _ (fun r2 e2 ⟨d2, hd, q⟩ v2 T2 H2 F2 f2 a2 z2 => ?_) q⟩
  refine ⟨T2, d1, d2, a2.re.trk, Cz.of (Fz.att a1.re a2 z1.rel.1), z2.rel.cz hd, mo _ _ _ _ (fun d q v H3 e3 fz => ?_) q⟩
  exact q v T2 H3 F2 [] ((a1.trans r.trk a2).trans r.trk (Att.ex a2.re e3)) ⟨⟨fz, rfl⟩, nofun, nofun⟩
theorem monoBin (ma : MonoE w1) (mb : MonoE w2) (mo : MonoO o) : MonoE (wBin o w1 w2) := fun env Q Q' i q =>
  ma env _ _ (fun r1 e1 ⟨d1, e, q⟩ => ⟨d1, e, mb e1 _ _ (fun r2 e2 ⟨d2, hd, q⟩ => ⟨d2, hd, mo _ _ _ _ (fun d q => i _ _ q) q⟩) q⟩) q
theorem binP (ma : MonoP v1) (mb : MonoP v2) (mo : MonoO o) {σ : L2.St} {H : Hp} {Q : VK} (h : tWP G (wBinP o v1 v2) σ H Q) : tOp (rO G o) (tWP G v1) (tWP G v2) σ H Q := by
  obtain ⟨T, env, F, r, q⟩ := h
  refine ⟨T, env, F, r, ma env _ _ (fun r1 ⟨d1, e, q⟩ v1 H1 f1 x1 r1' z1 n1 => ?_) q⟩
  refine ⟨T, env, F, r1', mb env _ _ (fun r2 ⟨d2, hd, q⟩ v2 H2 f2 x2 r2' z2 n2 => ?_) q⟩
  refine ⟨T, d1, d2, r2'.trk, (z1.cz e).ex x2, z2.cz hd, mo _ _ _ _ (fun d q v H3 e3 fz => ?_) q⟩
  exact q v H3 [] (x1.trans (x2.trans e3)) (r2'.ex e3) ⟨fz, rfl⟩ nofun
theorem monoBinP (ma : MonoP v1) (mb : MonoP v2) (mo : MonoO o) : MonoP (wBinP o v1 v2) := fun env Q Q' i q =>
  ma env _ _ (fun r1 ⟨d1, e, q⟩ => ⟨d1, e, mb env _ _ (fun r2 ⟨d2, hd, q⟩ => ⟨d2, hd, mo _ _ _ _ (fun d q => i _ q) q⟩) q⟩) q
theorem ge_op {op : Operator} {pos : Pos} (ho : OpX X G (binaryOp op) o) (ha : GE X G a w1) (hb : GE X G b w2) : GE X G (.BinOp a op b pos) (wBin o w1 w2) :=
  ⟨pe_imp (pe_op ho.ok ha.pe hb.pe) fun _ _ _ h => binW ha.mono hb.mono ho.mono h, monoBin ha.mono hb.mono ho.mono⟩
theorem gp_op {op : Operator} {pos : Pos} (ho : OpX X G (binaryOp op) o) (ha : GP X G a v1) (hb : GP X G b v2) : GP X G (.BinOp a op b pos) (wBinP o v1 v2) :=
  ⟨pe_imp (pe_op ho.ok ha.pe hb.pe) fun _ _ _ h => binP ha.mono hb.mono ho.mono h, monoBinP ha.mono hb.mono ho.mono⟩
theorem ge_cmp {op : CmpOp} {pos : Pos} (ho : OpX X G (compareOp op) o) (ha : GE X G a w1) (hb : GE X G b w2) (hm : behindInMarks op b = false) : GE X G (.Compare a [op] [b] pos) (wBin o w1 w2) :=
  ⟨pe_imp (pe_cmpR ho.ok ha.pe hb.pe hm) fun _ _ _ h => binW ha.mono hb.mono ho.mono h, monoBin ha.mono hb.mono ho.mono⟩
theorem gp_cmp {op : CmpOp} {pos : Pos} (ho : OpX X G (compareOp op) o) (ha : GP X G a v1) (hb : GP X G b v2) (hm : behindInMarks op b = false) : GP X G (.Compare a [op] [b] pos) (wBinP o v1 v2) :=
  ⟨pe_imp (pe_cmpR ho.ok ha.pe hb.pe hm) fun _ _ _ h => binP ha.mono hb.mono ho.mono h, monoBinP ha.mono hb.mono ho.mono⟩
/-- x[i] by values -/
structure IxX (X : Cx) (G : Gx) (o : Op2) : Prop where
  ok : IxR X (rO G o)
  mono : MonoO o
theorem ge_ix {pos : Pos} (ho : IxX X G o) (ha : GE X G a w1) (hb : GE X G b w2) (hs : PlainIx b) : GE X G (.Subscript a b pos) (wBin o w1 w2) :=
  ⟨pe_imp (pe_ix ho.ok ha.pe hb.pe hs) fun _ _ _ h => binW ha.mono hb.mono ho.mono h, monoBin ha.mono hb.mono ho.mono⟩
theorem gp_ix {pos : Pos} (ho : IxX X G o) (ha : GP X G a v1) (hb : GP X G b v2) (hs : PlainIx b) : GP X G (.Subscript a b pos) (wBinP o v1 v2) :=
  ⟨pe_imp (pe_ix ho.ok ha.pe hb.pe hs) fun _ _ _ h => binP ha.mono hb.mono ho.mono h, monoBinP ha.mono hb.mono ho.mono⟩
end
end Fx

namespace Fx
open PySem PySem.Spec PyProof.Rows L2 Evl Lk

/-! ### tests -/
def dTru : D → (Bool → Prop) → Prop
  | .non, Q => Q false
  | .bl b, Q => Q b
  | .int i, Q => Q (i != 0)
  | .str x, Q => x.length ≤ sizeLine ∧ Q ((x.length : Int) != 0)
  | .lst ds, Q => Q (!ds.isEmpty)
  | .tup ds, Q => Q (!ds.isEmpty)
  | _, _ => False
def wTru (w : WE) : WT := fun env Q => w env fun r e => ∃ d, r.cd = some d ∧ dTru d fun b => Q b e
def wTB (w : WE) : WT := fun env Q => w env fun r e => ∃ b, r = .f (.bl b) ∧ Q b e
def wAnd (t u : WT) : WT := fun env Q => t env fun c e => if c = true then u e Q else Q false e
def wOr (t u : WT) : WT := fun env Q => t env fun c e => if c = true then Q true e else u e Q
def wNot (t : WT) : WT := fun env Q => t env fun c e => Q (!c) e
def wAndV (t u : WE) : WE := fun env Q => t env fun r e => ∃ b, r = .f (.bl b) ∧ if b = true then u e Q else Q (.f (.bl false)) e
def wNotV (t : WE) : WE := fun env Q => t env fun r e => ∃ b, r = .f (.bl b) ∧ Q (.f (.bl (!b))) e
section
variable {X : Cx} {G : Gx} {a b c : Expr} {rest : List Expr} {pos : Pos} {t u : WT} {w1 w2 w3 : WE}
theorem FzL.emp {K : PySem.W.Frag} {H : Hp} {vs : List V} {ds : List D} (h : FzL K H vs ds) : (!ds.isEmpty) = (!vs.isEmpty) := by
  cases h <;> rfl
theorem tru_of {K : PySem.W.Frag} {T : Addr → Prop} {H : Hp} {v : V} {d : D} {Q : Bool → Prop} (h : Cz K T H v d) (q : dTru d Q) : ∃ k, TruV K v H k ∧ Q k := by
  cases d with
  | non => cases h; exact ⟨false, rfl, q⟩
  | bl b => cases h; exact ⟨b, rfl, q⟩
  | int i => cases h; exact ⟨_, rfl, q⟩
  | str x => cases h; exact ⟨_, ⟨q.1, rfl⟩, q.2⟩
  | ty n => exact q.elim
  | dic ks ds => exact q.elim
  | lst ds =>
    obtain ⟨a, vs, rfl, h1, h2⟩ := h
    have q' : Q (!ds.isEmpty) := q
    rw [h2.emp] at q'
    exact ⟨_, .inl ⟨vs, h1, rfl⟩, q'⟩
  | tup ds =>
    cases h with
    | tup h1 h2 =>
      have q' : Q (!ds.isEmpty) := q
      rw [h2.emp] at q'
      exact ⟨_, .inr (.inl ⟨_, ex_t hid_ex h1, rfl⟩), q'⟩
theorem dTru_mono {d : D} {Q Q' : Bool → Prop} (i : ∀ b, Q b → Q' b) (q : dTru d Q) : dTru d Q' := by
  cases d <;> first | exact i _ q | exact q.elim | exact ⟨q.1, i _ q.2⟩
theorem gt_tru (h : GE X G a w1) (hK : X.K = G.K := by rfl) (he : ∀ whole, isTrue a X.env whole = (do let v ← whole; standAt a.pos; holding [v] (truthy v)) := by intro _; rfl) : GT X G a (wTru w1) := by
  refine ⟨pt_imp (pt_truth h.pe he) fun σ H Q ⟨T, env, F, r, q⟩ => ⟨T, env, F, r, h.mono env _ _ (fun s e ⟨d, hd, q⟩ v T' H' F' fr a z => ?_) q⟩, fun env Q Q' i q => h.mono env _ _ (fun s e ⟨d, hd, q⟩ => ⟨d, hd, dTru_mono (fun b z => i b e z) q⟩) q⟩
  obtain ⟨k, h1, h2⟩ := tru_of (z.rel.cz hd) q
  exact ⟨k, hK ▸ h1, h2 T' H' F' a⟩
theorem gt_b (h : GE X G a w1) (he : ∀ whole, isTrue a X.env whole = (do let v ← whole; standAt a.pos; holding [v] (truthy v)) := by intro _; rfl) : GT X G a (wTB w1) := by
  refine ⟨pt_imp (pt_val h.pe he) fun σ H Q ⟨T, env, F, r, q⟩ => ⟨T, env, F, r, h.mono env _ _ (fun s e ⟨b, hb, q⟩ v T' H' F' fr a z => ?_) q⟩, fun env Q Q' i q => h.mono env _ _ (fun s e ⟨b, hb, q⟩ => ⟨b, hb, i _ _ q⟩) q⟩
  subst hb
  obtain ⟨h1, _⟩ := z.rel
  cases h1
  exact ⟨_, rfl, q T' H' F' a⟩
/-- a comparison as a test -/
theorem gt_cmp {op : CmpOp} {o : Op2} (ho : OpX X G (compareOp op) o) (ha : GE X G a w1) (hb : GE X G b w2) (hm : behindInMarks op b = false) : GT X G (.Compare a [op] [b] pos) (wTB (wBin o w1 w2)) := by
  have m := monoBin ha.mono hb.mono ho.mono
  refine ⟨pt_imp (pt_cmpR ho.ok ha.pe hb.pe hm) fun σ H Q ⟨T, env, F, r, q⟩ => ?_, fun env Q Q' i q => m env _ _ (fun s e ⟨b, hb, q⟩ => ⟨b, hb, i _ _ q⟩) q⟩
  refine binW ha.mono hb.mono ho.mono ⟨T, env, F, r, m env _ _ (fun s e ⟨b, hb, q⟩ v T' H' F' fr a z => ?_) q⟩
  subst hb
  obtain ⟨h1, _⟩ := z.rel
  cases h1
  exact ⟨_, rfl, q T' H' F' a⟩
theorem gt_cmpP {op : CmpOp} {o : Op2} {v1 v2 : WP} (ho : OpX X G (compareOp op) o) (ha : GP X G a v1) (hb : GP X G b v2) (hm : behindInMarks op b = false) : GT X G (.Compare a [op] [b] pos) (fun env Q => wBinP o v1 v2 env fun r => ∃ c, r = .f (.bl c) ∧ Q c env) := by
  have m := monoBinP ha.mono hb.mono ho.mono
  refine ⟨pt_imp (pt_cmpR ho.ok ha.pe hb.pe hm) fun σ H Q ⟨T, env, F, r, q⟩ => ?_, fun env Q Q' i q => m env _ _ (fun s ⟨b, hb, q⟩ => ⟨b, hb, i _ _ q⟩) q⟩
  refine binP ha.mono hb.mono ho.mono ⟨T, env, F, r, m env _ _ (fun s ⟨c, hc, q⟩ v H' fr e r' rel no => ?_) q⟩
  subst hc
  obtain ⟨h1, _⟩ := rel
  cases h1
  exact ⟨_, rfl, q T H' F (Att.ex r e)⟩
structure GW (X : Cx) (G : Gx) (e : Expr) (w : WT) : Prop where
  pw : PW X e (tWT G w)
  mono : MonoT w
theorem pw_imp {e : Expr} {t t' : TT} (h : PW X e t) (i : ∀ σ H Q, t' σ H Q → t σ H Q) : PW X e t' := ⟨fun wh pins s σ H Q I q => h.run wh pins s σ H Q I (i σ H Q q)⟩
theorem gw_and1 (h : GT X G a t) : GW X G (.BoolOp .And [a] pos) t := ⟨pw_and1 h.pt, h.mono⟩
theorem gw_or1 (h : GT X G a t) : GW X G (.BoolOp .Or [a] pos) t := ⟨pw_or1 h.pt, h.mono⟩
theorem GW.gt {e : Expr} (h : GW X G e t) : GT X G e t := ⟨h.pw.pt, h.mono⟩
theorem gw_and (ha : GT X G a t) (hb : GW X G (.BoolOp .And (b :: rest) pos) u) : GW X G (.BoolOp .And (a :: b :: rest) pos) (wAnd t u) := by
  refine ⟨pw_imp (pw_and ha.pt hb.pw) fun σ H Q ⟨T, env, F, r, q⟩ => ⟨T, env, F, r, ha.mono env _ _ (fun c e q T' H' F' a => ?_) q⟩, fun env Q Q' i q => ha.mono env _ _ (fun c e q => ?_) q⟩
  · cases c with
    | true => exact ite_tt ⟨T', e, F', a.re, hb.mono e _ _ (fun b e2 q T2 H2 F2 a2 => q T2 H2 F2 (a.trans r.trk a2)) q⟩
    | false => exact ite_ff (q T' H' F' a)
  · cases c with
    | true => exact hb.mono e _ _ i q
    | false => exact i _ _ q
theorem gw_or (ha : GT X G a t) (hb : GW X G (.BoolOp .Or (b :: rest) pos) u) : GW X G (.BoolOp .Or (a :: b :: rest) pos) (wOr t u) := by
  refine ⟨pw_imp (pw_or ha.pt hb.pw) fun σ H Q ⟨T, env, F, r, q⟩ => ⟨T, env, F, r, ha.mono env _ _ (fun c e q T' H' F' a => ?_) q⟩, fun env Q Q' i q => ha.mono env _ _ (fun c e q => ?_) q⟩
  · cases c with
    | false => exact ite_ff ⟨T', e, F', a.re, hb.mono e _ _ (fun b e2 q T2 H2 F2 a2 => q T2 H2 F2 (a.trans r.trk a2)) q⟩
    | true => exact ite_tt (q T' H' F' a)
  · cases c with
    | false => exact hb.mono e _ _ i q
    | true => exact i _ _ q
theorem gt_not (ha : GT X G a t) : GT X G (.UnaryOp .Not a pos) (wNot t) :=
  ⟨pt_imp (pt_not ha.pt) fun σ H Q ⟨T, env, F, r, q⟩ => ⟨T, env, F, r, q⟩, fun env Q Q' i q => ha.mono env _ _ (fun c e q => i _ _ q) q⟩
theorem ge_one {op} (h : GE X G a w1) : GE X G (.BoolOp op [a] pos) w1 := ⟨pe_one h.pe, h.mono⟩
theorem bl_of {T : Addr → Prop} {H : Hp} {v : V} {k : Bool} {fr : List Addr} (h : SlR G T H (.f (.bl k)) v fr) : v = .bl k := by
  obtain ⟨h1, _⟩ := h
  cases h1
  rfl
theorem res_f {T0 T : Addr → Prop} {H0 H : Hp} {env0 env : Env} {F0 F : Nat → List Addr} {d : D} {v : V} (h : Fz G.K (hid T H) v d) : Res G T0 H0 env0 F0 T H env F (.f d) v [] := ⟨⟨h, rfl⟩, nofun, nofun⟩
theorem res_trans {T0 T1 T2 : Addr → Prop} {H0 H1 H2 : Hp} {σ : L2.St} {env0 env1 env2 : Env} {F0 F1 F2 : Nat → List Addr} {r : Sl} {v : V} {fr : List Addr} (t : Trk T0 H0) (a : Att G σ T0 H0 env0 F0 T1 H1 env1 F1) (z : Res G T1 H1 env1 F1 T2 H2 env2 F2 r v fr) : Res G T0 H0 env0 F0 T2 H2 env2 F2 r v fr :=
  ⟨z.rel, z.dis, fun o e x hx => by
    rcases z.from_ o e x hx with q | q
    · exact a.own x q
    · refine .inr ?_
      cases e : H0 x with
      | none => rfl
      | some o => exact absurd q (a.chg.dom x (by rw [e]; exact nofun))⟩
theorem ge_and (ha : GE X G a w1) (hb : GE X G (.BoolOp .And (b :: rest) pos) w2) : GE X G (.BoolOp .And (a :: b :: rest) pos) (wAndV w1 w2) := by
  refine ⟨pe_imp (pe_and ha.pe hb.pe) fun σ H Q ⟨T, env, F, r, q⟩ => ⟨T, env, F, r, ha.mono env _ _ (fun s e ⟨k, hk, q⟩ v T' H' F' fr a z => ?_) q⟩, fun env Q Q' i q => ha.mono env _ _ (fun s e ⟨k, hk, q⟩ => ⟨k, hk, ?_⟩) q⟩
  · subst hk
    refine ⟨k, bl_of z.rel, ?_⟩
    cases k with
    | true => exact ite_tt ⟨T', e, F', a.re, hb.mono e _ _ (fun b e2 q v2 T2 H2 F2 f2 a2 z2 => q v2 T2 H2 F2 f2 (a.trans r.trk a2) (res_trans r.trk a z2)) q⟩
    | false => exact ite_ff (q _ T' H' F' [] a (res_f (.bl false)))
  · cases k with
    | true => exact hb.mono e _ _ i q
    | false => exact i _ _ q
theorem ge_not (ha : GE X G a w1) : GE X G (.UnaryOp .Not a pos) (wNotV w1) := by
  refine ⟨pe_imp (pe_not ha.pe) fun σ H Q ⟨T, env, F, r, q⟩ => ⟨T, env, F, r, ha.mono env _ _ (fun s e ⟨k, hk, q⟩ v T' H' F' fr a z => ?_) q⟩, fun env Q Q' i q => ha.mono env _ _ (fun s e ⟨k, hk, q⟩ => ⟨k, hk, i _ _ q⟩) q⟩
  subst hk
  exact ⟨k, bl_of z.rel, q _ T' H' F' [] a (res_f (.bl _))⟩
/-! a < b < c -/
/-! one value -/
abbrev Op1 := D → (D → Prop) → Prop
def MonoU (o : Op1) : Prop := ∀ a (Q Q' : D → Prop), (∀ d, Q d → Q' d) → o a Q → o a Q'
def rU1 (G : Gx) (o : Op1) : V → Hp → VK → Prop := fun x H Q => ∃ T d1, Trk T H ∧ Cz G.K T H x d1 ∧ o d1 fun d => ∀ v H', Ex H H' → Fz G.K (hid T H') v d → Q v H'
structure UnX (X : Cx) (G : Gx) (f : Value → Sem Value) (o : Op1) : Prop where
  ok : UnR X f (rU1 G o)
  mono : MonoU o
def wUn (o : Op1) (w : WE) : WE := fun env Q => w env fun r e => ∃ d, r.cd = some d ∧ o d fun d' => Q (.f d') e
theorem unW {o : Op1} (ma : MonoE w1) (mo : MonoU o) {σ : L2.St} {H : Hp} {Q : VK} (h : tW G (wUn o w1) σ H Q) : tUn (rU1 G o) (tW G w1) σ H Q := by
  obtain ⟨T, env, F, r, q⟩ := h
  refine ⟨T, env, F, r, ma env _ _ (fun r1 e1 ⟨d1, e, q⟩ x T1 H1 F1 f1 a1 z1 => ?_) q⟩
  refine ⟨T1, d1, a1.re.trk, z1.rel.cz e, mo _ _ _ (fun d q v H3 e3 fz => ?_) q⟩
  exact q v T1 H3 F1 [] (a1.trans r.trk (Att.ex a1.re e3)) (res_f fz)
theorem monoUn {o : Op1} (ma : MonoE w1) (mo : MonoU o) : MonoE (wUn o w1) := fun env Q Q' i q => ma env _ _ (fun r e ⟨d, h, q⟩ => ⟨d, h, mo _ _ _ (fun d q => i _ _ q) q⟩) q
theorem ge_un {op : UnaryOp} {o : Op1} (ho : UnX X G (unaryOp op) o) (ha : GE X G a w1) : GE X G (.UnaryOp op a pos) (wUn o w1) :=
  ⟨pe_imp (pe_un ho.ok ha.pe) fun _ _ _ h => unW ha.mono ho.mono h, monoUn ha.mono ho.mono⟩
end
end Fx

namespace Fx
open PySem PySem.Spec PyProof.Rows L2 Evl Lk

/-! ### a slot's owned thing is moved out of it -/
section
variable {G : Gx} {T T1 : Addr → Prop} {H H1 : Hp} {σ : L2.St} {env : Env} {F : Nat → List Addr} {s r : Sl} {v : V} {fr : List Addr} {i : Nat}
theorem set_get {env : Env} {i j : Nat} {x : Option Sl} (h : (env.set i x)[j]? = some (some s)) : (j = i ∧ x = some s) ∨ (j ≠ i ∧ env[j]? = some (some s)) := by
  by_cases e : j = i
  · subst e
    by_cases hl : j < env.length
    · rw [List.getElem?_set_self hl] at h
      exact .inl ⟨rfl, Option.some.inj h⟩
    · rw [List.set_eq_of_length_le (by omega), List.getElem?_eq_none (by omega)] at h
      cases h
  · rw [List.getElem?_set_ne (Ne.symm e)] at h
    exact .inr ⟨e, h⟩
/-- one slot forgotten -/
theorem RE.drop (r : RE G T H σ env F) (i : Nat) : RE G T H σ (env.set i none) F where
  trk := r.trk
  tab := r.tab
  slot := fun j s h => by
    rcases set_get h with ⟨_, e⟩ | ⟨_, e⟩
    · cases e
    · exact r.slot j s e
  dis := fun j k n ⟨o, h1⟩ ⟨s, h2⟩ => by
    rcases set_get h1 with ⟨_, e⟩ | ⟨_, h1⟩
    · cases e
    rcases set_get h2 with ⟨_, e⟩ | ⟨_, h2⟩
    · cases e
    exact r.dis j k n ⟨o, h1⟩ ⟨s, h2⟩
  st := r.st
  ow := fun a ⟨j, ⟨o, h⟩, ha⟩ => by
    rcases set_get h with ⟨_, e⟩ | ⟨_, h⟩
    · cases e
    · exact r.ow a ⟨j, ⟨o, h⟩, ha⟩
  t0 := r.t0
  pin := r.pin
  len := by rw [List.length_set]; exact r.len
  hx := r.hx
/-- a slot stored: what was in it is let go -/
theorem RE.store (re : RE G T H σ env F) (i : Nat) (hi : i < σ.length) (hp : G.prot i = false) (nv : ∀ o, r ≠ .vw o) (z : SlR G T H r v fr) (dis : ∀ o, r = .own o → ∀ j, IsS env j → ∀ a ∈ fr, a ∉ F j) (fo : ∀ o, r = .own o → ∀ a ∈ fr, G.P0 a ∨ G.H0 a = none) :
    RE G T H (σ.set i (some v)) (env.set i (some r)) (upF F i fr) where
  trk := re.trk
  tab := re.tab
  slot := fun j s h => by
    rcases set_get h with ⟨e, e2⟩ | ⟨e, e2⟩
    · cases e2
      subst e
      refine ⟨v, List.getElem?_set_self hi, ?_⟩
      rw [upF_same]
      exact z
    · obtain ⟨w, h1, h2⟩ := re.slot j s e2
      refine ⟨w, by rw [List.getElem?_set_ne (Ne.symm e)]; exact h1, ?_⟩
      rw [upF_ne e]
      exact h2
  dis := fun j k n ⟨o, h1⟩ ⟨s, h2⟩ a ha hb => by
    rcases set_get h1 with ⟨e, e1⟩ | ⟨e, h1⟩
    · cases e1
      subst e
      rcases set_get h2 with ⟨e, e1⟩ | ⟨e, h2⟩
      · exact n e.symm
      · rw [upF_same] at ha
        rw [upF_ne e] at hb
        exact dis o rfl k ⟨s, h2⟩ a ha hb
    · rw [upF_ne e] at ha
      have g1 : IsS env j := ⟨_, h1⟩
      rcases set_get h2 with ⟨e2, e1⟩ | ⟨e2, h2⟩
      · cases e1
        subst e2
        rw [upF_same] at hb
        cases r with
        | f d => rw [z.2] at hb; cases hb
        | own o' => exact dis o' rfl j g1 a hb ha
        | vw o' => exact absurd rfl (nv o')
      · rw [upF_ne e2] at hb
        exact re.dis j k n ⟨o, h1⟩ ⟨s, h2⟩ a ha hb
  st := re.st
  ow := fun a ⟨j, ⟨o, h⟩, ha⟩ => by
    rcases set_get h with ⟨e, e1⟩ | ⟨e, h⟩
    · cases e1
      subst e
      rw [upF_same] at ha
      exact fo o rfl a ha
    · rw [upF_ne e] at ha
      exact re.ow a ⟨j, ⟨o, h⟩, ha⟩
  t0 := re.t0
  pin := fun j hj => by
    have n : i ≠ j := fun e => by rw [← e, hp] at hj; cases hj
    rw [List.getElem?_set_ne n]
    exact re.pin j hj
  len := by rw [List.length_set, List.length_set]; exact re.len
  hx := re.hx
end

/-! ### argument lists -/
/-- the arguments: what is owned of a passing one stands apart -/
structure ArgR (G : Gx) (σ : L2.St) (T0 : Addr → Prop) (H0 : Hp) (env0 : Env) (F0 : Nat → List Addr) (T : Addr → Prop) (H : Hp) (env : Env) (F : Nat → List Addr) (as : List Ag) (vs : List V) (Fa : Nat → List Addr) : Prop where
  len : vs.length = as.length
  val : ∀ (j : Nat) (s : Sl), as[j]? = some (Ag.v s) → ∃ v, vs[j]? = some v ∧ SlR G T H s v (Fa j) ∧ ∀ o, s ≠ .vw o
  slt : ∀ (j i : Nat) (b : Bool), as[j]? = some (Ag.slot i b) → ∃ v, σ[i]? = some (some v) ∧ vs[j]? = some v
  dis : ∀ (j : Nat) (o : O), as[j]? = some (Ag.v (.own o)) → (∀ i, IsS env i → ∀ a ∈ Fa j, a ∉ F i) ∧ ∀ (k : Nat) (s : Sl), k ≠ j → as[k]? = some (Ag.v s) → ∀ a ∈ Fa j, a ∉ Fa k
  from_ : ∀ (j : Nat) (o : O), as[j]? = some (Ag.v (.own o)) → ∀ a ∈ Fa j, OwnP env0 F0 a ∨ H0 a = none
def tWA (G : Gx) (w : WA) : TA := fun σ H Q => ∃ T env F, RE G T H σ env F ∧ w env fun as env' => ∀ vs T' H' F' Fa, Att G σ T H env F T' H' env' F' → ArgR G σ T H env F T' H' env' F' as vs Fa → Q vs H'
structure GA (X : Cx) (G : Gx) (es : List Expr) (w : WA) : Prop where
  pa : PA X es (tWA G w)
  mono : MonoA w
def waNil : WA := fun env Q => Q [] env
def waCons (w : WE) (wr : WA) : WA := fun env Q => w env fun r e => (∀ o, r ≠ .vw o) ∧ wr e fun as e2 => Q (.v r :: as) e2
def waSlot (i : Nat) (own : Bool) (wr : WA) : WA := fun env Q => (∃ s, env[i]? = some (some s)) ∧ wr env fun as e2 => Q (.slot i own :: as) e2
section
variable {X : Cx} {G : Gx} {e : Expr} {es : List Expr} {w : WE} {wr : WA}
theorem att_out {T1 T2 : Addr → Prop} {H1 H2 : Hp} {σ : L2.St} {env1 env2 : Env} {F1 F2 : Nat → List Addr} {fr : List Addr} (t : Trk T1 H1) (b : Att G σ T1 H1 env1 F1 T2 H2 env2 F2)
    (tr : ∀ x ∈ fr, T1 x) (n : ∀ i, IsS env1 i → ∀ x ∈ fr, x ∉ F1 i) : (∀ i, IsS env2 i → ∀ x ∈ fr, x ∉ F2 i) := fun i ⟨s, hi⟩ x hx hF => by
  cases s with
  | f d =>
    obtain ⟨v, _, _, e⟩ := b.re.slot i _ hi
    rw [e] at hF
    cases hF
  | own o =>
    rcases b.own x ⟨i, ⟨o, hi⟩, hF⟩ with ⟨j, ⟨o', hj⟩, hF1⟩ | z
    · exact n j ⟨_, hj⟩ x hx hF1
    · exact t x (tr x hx) z
  | vw o =>
    obtain ⟨h1, e⟩ := b.vw i o hi
    rw [e] at hF
    exact n i ⟨_, h1⟩ x hx hF
theorem ga_nil : GA X G [] waNil := by
  refine ⟨pa_imp pa_nil fun σ H Q ⟨T, env, F, r, q⟩ => ?_, fun env Q Q' i q => i _ _ q⟩
  exact q [] T H F (fun _ => []) (.refl r) ⟨rfl, fun _ _ h => (by cases h), fun _ _ _ h => (by cases h), fun _ _ h => (by cases h), fun _ _ h => (by cases h)⟩
theorem tc_cons {σ : L2.St} {H : Hp} {Q : List V → Hp → Prop} (hm : MonoE w) (hn : MonoA wr) (h : tWA G (waCons w wr) σ H Q) : tCons (tW G w) (tWA G wr) σ H Q := by
  obtain ⟨T, env, F, r, q⟩ := h
  refine ⟨T, env, F, r, hm env _ _ (fun s e ⟨nv, q⟩ x T1 H1 F1 f1 a1 z1 => ?_) q⟩
  refine ⟨T1, e, F1, a1.re, hn e _ _ (fun as e2 q vs T2 H2 F2 Fa a2 z2 => ?_) q⟩
  have sub1 := z1.rel.sub
  have f1e : (∀ o, s ≠ .own o) → f1 = [] := fun n => by
    cases s with
    | f d => exact z1.rel.2
    | own o => exact absurd rfl (n o)
    | vw o => exact absurd rfl (nv o)
  have nP : ∀ x ∈ f1, ¬ OwnP e F1 x := fun y hy ⟨i, ⟨o, hi⟩, hF⟩ => by
    cases s with
    | f d => rw [z1.rel.2] at hy; cases hy
    | own o' => exact z1.dis o' rfl i ⟨_, hi⟩ y hy hF
    | vw o' => exact nv o' rfl
  have nA : ∀ k s', as[k]? = some (Ag.v s') → ∀ y ∈ f1, y ∉ Fa k := fun k s' hk y hy hF => by
    cases s' with
    | f d =>
      obtain ⟨v, _, z, _⟩ := z2.val k _ hk
      rw [z.2] at hF
      cases hF
    | vw o =>
      obtain ⟨v, _, _, n⟩ := z2.val k _ hk
      exact n o rfl
    | own o =>
      rcases z2.from_ k o hk y hF with h | h
      · exact nP y hy h
      · exact a1.re.trk y (sub1 y hy) h
  refine q (x :: vs) T2 H2 F2 (fun j => match j with | 0 => f1 | j + 1 => Fa j) (a1.trans r.trk a2) ⟨by simp [z2.len], fun j s' hj => ?_, fun j i b hj => ?_, fun j o hj => ?_, fun j o hj => ?_⟩
  · cases j with
    | zero =>
      cases hj
      exact ⟨x, rfl, z1.rel.chg a2.chg a1.re.sub nP, nv⟩
    | succ j => exact z2.val j s' (by simpa using hj)
  · cases j with
    | zero => cases hj
    | succ j => exact z2.slt j i b (by simpa using hj)
  · cases j with
    | zero =>
      cases hj
      refine ⟨att_out a1.re.trk a2 sub1 (z1.dis o rfl), fun k s' nk hk y hy => ?_⟩
      cases k with
      | zero => exact absurd rfl nk
      | succ k => exact nA k s' (by simpa using hk) y hy
    | succ j =>
      obtain ⟨d1, d2⟩ := z2.dis j o (by simpa using hj)
      refine ⟨d1, fun k s' nk hk y hy => ?_⟩
      cases k with
      | zero =>
        cases hk
        exact fun h => nA j _ (by simpa using hj) y h hy
      | succ k => exact d2 k s' (fun e => nk (by rw [e])) (by simpa using hk) y hy
  · cases j with
    | zero => cases hj; exact z1.from_ o rfl
    | succ j =>
      intro y hy
      rcases z2.from_ j o (by simpa using hj) y hy with h | h
      · exact a1.own y h
      · refine .inr ?_
        cases e : H y with
        | none => rfl
        | some u => exact absurd h (a1.chg.dom y (by rw [e]; exact nofun))
theorem ga_cons (ha : GE X G e w) (hr : GA X G es wr) (hs : starEach (e :: es) X.env = (false, eval e X.env) :: starEach es X.env := by rfl) : GA X G (e :: es) (waCons w wr) :=
  ⟨pa_imp (pa_cons ha.pe hr.pa hs) fun σ H Q h => tc_cons ha.mono hr.mono h, fun env Q Q' i q => ha.mono env _ _ (fun s e ⟨nv, q⟩ => ⟨nv, hr.mono e _ _ (fun as e2 q => i _ _ q) q⟩) q⟩
/-- a name that is handed on -/
theorem tc_slot {i : Nat} {own : Bool} {σ : L2.St} {H : Hp} {Q : List V → Hp → Prop} (hn : MonoA wr) (h : tWA G (waSlot i own wr) σ H Q) : tCons (tVar i) (tWA G wr) σ H Q := by
  obtain ⟨T, env, F, r, ⟨s, hs⟩, q⟩ := h
  obtain ⟨x, hx, _⟩ := r.slot i s hs
  refine ⟨x, hx, T, env, F, r, hn env _ _ (fun as e2 q vs T2 H2 F2 Fa a2 z2 => ?_) q⟩
  refine q (x :: vs) T2 H2 F2 (fun j => match j with | 0 => [] | j + 1 => Fa j) a2 ⟨by simp [z2.len], fun j s' hj => ?_, fun j i b hj => ?_, fun j o hj => ?_, fun j o hj => ?_⟩
  · cases j with
    | zero => cases hj
    | succ j => exact z2.val j s' (by simpa using hj)
  · cases j with
    | zero => cases hj; exact ⟨x, hx, rfl⟩
    | succ j => exact z2.slt j i b (by simpa using hj)
  · cases j with
    | zero => cases hj
    | succ j =>
      obtain ⟨d1, d2⟩ := z2.dis j o (by simpa using hj)
      refine ⟨d1, fun k s' nk hk y hy => ?_⟩
      cases k with
      | zero => cases hk
      | succ k => exact d2 k s' (fun e => nk (by rw [e])) (by simpa using hk) y hy
  · cases j with
    | zero => cases hj
    | succ j => exact z2.from_ j o (by simpa using hj)
theorem ga_slot {i : Nat} {own : Bool} (hv : PE X e (tVar i)) (hr : GA X G es wr) (hs : starEach (e :: es) X.env = (false, eval e X.env) :: starEach es X.env := by rfl) : GA X G (e :: es) (waSlot i own wr) :=
  ⟨pa_imp (pa_cons hv hr.pa hs) fun σ H Q h => tc_slot hr.mono h, fun env Q Q' i ⟨h, q⟩ => ⟨h, hr.mono _ _ _ (fun as e2 q => i _ _ q) q⟩⟩
/-! ### displays -/
def argsD : List Ag → Option (List D)
  | [] => some []
  | .v (.f d) :: as => (argsD as).map (d :: ·)
  | _ :: _ => none
theorem args_fz {σ : L2.St} {T0 T : Addr → Prop} {H0 H : Hp} {env0 env : Env} {F0 F : Nat → List Addr} {as : List Ag} {vs : List V} {Fa : Nat → List Addr} {ds : List D} (z : ArgR G σ T0 H0 env0 F0 T H env F as vs Fa) (h : argsD as = some ds) : FzL G.K (hid T H) vs ds := by
  have key : ∀ (as : List Ag) (vs : List V) (ds : List D), vs.length = as.length → (∀ (j : Nat) (s : Sl), as[j]? = some (Ag.v s) → ∃ v fr, vs[j]? = some v ∧ SlR G T H s v fr) → argsD as = some ds → FzL G.K (hid T H) vs ds := by
    intro as
    induction as with
    | nil =>
      intro vs ds hl _ h
      cases h
      cases vs with
      | nil => exact .nil
      | cons _ _ => cases hl
    | cons a as ih =>
      intro vs ds hl hv h
      cases vs with
      | nil => cases hl
      | cons v vs =>
        cases a with
        | slot i b => cases h
        | v s =>
          cases s with
          | own o => cases h
          | vw o => cases h
          | f d =>
            have h : (argsD as).map (d :: ·) = some ds := h
            cases e : argsD as with
            | none => rw [e] at h; cases h
            | some es =>
              rw [e] at h
              cases h
              obtain ⟨v', fr, e1, e2⟩ := hv 0 _ rfl
              cases e1
              refine .cons e2.1 (ih vs es (by simpa using hl) (fun j s hj => ?_) e)
              obtain ⟨v', fr, e1, e2⟩ := hv (j + 1) s (by simpa using hj)
              exact ⟨v', fr, by simpa using e1, e2⟩
  exact key as vs ds z.len (fun j s hj => let ⟨v, a, b, _⟩ := z.val j s hj; ⟨v, _, a, b⟩) h
def wTup (wa : WA) : WE := fun env Q => wa env fun as e => ∃ ds, argsD as = some ds ∧ ds.length ≤ sizeLine ∧ Q (.f (.tup ds)) e
def wLst (wa : WA) : WE := fun env Q => wa env fun as e => ∃ ds, argsD as = some ds ∧ ds.length ≤ sizeLine ∧ Q (.f (.lst ds)) e
/-- a list that is owned -/
def wLstO (wa : WA) : WE := fun env Q => wa env fun as e => ∃ ds, argsD as = some ds ∧ ds.length ≤ sizeLine ∧ Q (.own (.lst ds)) e
variable {wa : WA}
theorem nT {T : Addr → Prop} {H : Hp} {p : Addr} (t : Trk T H) (h : H p = none) : ¬ T p := fun z => t p z h
theorem ge_tup {x1 : Nat} {pos : Pos} (ha : GA X G es wa) : GE X G (.Tuple es x1 pos) (wTup wa) := by
  refine ⟨pe_imp (pe_tup ha.pa) fun σ H Q ⟨T, env, F, r, q⟩ => ⟨T, env, F, r, ha.mono env _ _ (fun as e ⟨ds, hd, hl, q⟩ vs T1 H1 F1 Fa a1 z1 => ?_) q⟩, fun env Q Q' i q => ha.mono env _ _ (fun as e ⟨ds, hd, hl, q⟩ => ⟨ds, hd, hl, i _ _ q⟩) q⟩
  have fz := args_fz z1 hd
  refine ⟨by rw [fz.length]; exact hl, fun p np => ?_⟩
  have ex : Ex H1 (upd H1 p (.tup vs)) := Ex.new np
  exact q _ T1 _ F1 [] (a1.trans r.trk (Att.ex a1.re ex)) (res_f (.tup (SqT.of (hid_of upd_same (nT a1.re.trk np))) (fz.ex (hid_mono ex))))
theorem ge_lst {pos : Pos} (ha : GA X G es wa) : GE X G (.List es pos) (wLst wa) := by
  refine ⟨pe_imp (pe_lst ha.pa) fun σ H Q ⟨T, env, F, r, q⟩ => ⟨T, env, F, r, ha.mono env _ _ (fun as e ⟨ds, hd, hl, q⟩ vs T1 H1 F1 Fa a1 z1 => ?_) q⟩, fun env Q Q' i q => ha.mono env _ _ (fun as e ⟨ds, hd, hl, q⟩ => ⟨ds, hd, hl, i _ _ q⟩) q⟩
  have fz := args_fz z1 hd
  refine ⟨by rw [fz.length]; exact hl, fun p np => ?_⟩
  have ex : Ex H1 (upd H1 p (.lst vs)) := Ex.new np
  exact q _ T1 _ F1 [] (a1.trans r.trk (Att.ex a1.re ex)) (res_f (.lst (SqL.of (hid_of upd_same (nT a1.re.trk np))) (fz.ex (hid_mono ex))))
/-- a new thing that is owned -/
theorem att_new {T : Addr → Prop} {H : Hp} {σ : L2.St} {env : Env} {F : Nat → List Addr} {p : Addr} {o : HO} (r : RE G T H σ env F) (np : H p = none) : Att G σ T H env F (fun a => T a ∨ a = p) (upd H p o) env F := by
  have c : Chg T H (fun _ => False) (fun a => T a ∨ a = p) (upd H p o) := Chg.newOwn r.trk np
  exact ⟨c.weak fun _ h => h.elim, r.chg c (fun _ h => h.elim) (fun _ h => h.elim) fun _ _ _ _ h => h, fun _ h => .inl h, fun _ _ h => ⟨h, rfl⟩⟩
theorem own_new {T : Addr → Prop} {H : Hp} {σ : L2.St} {env : Env} {F : Nat → List Addr} {p : Addr} {ob : HO} {o : O} {v : V} (r : RE G T H σ env F) (np : H p = none) (ow : Ow G.K (fun a => T a ∨ a = p) (upd H p ob) o v [p]) :
    Res G T H env F (fun a => T a ∨ a = p) (upd H p ob) env F (.own o) v [p] :=
  ⟨ow, fun _ _ i ⟨s, hs⟩ a ha hF => by
    rw [List.mem_singleton.mp ha] at hF
    obtain ⟨v, _, z⟩ := r.slot i s hs
    exact r.trk p (z.sub p hF) np, fun _ _ a ha => by rw [List.mem_singleton.mp ha]; exact .inr np⟩
theorem hid_new {T : Addr → Prop} {H : Hp} {p : Addr} {o : HO} (np : H p = none) : Ex (hid T H) (hid (fun a => T a ∨ a = p) (upd H p o)) := fun a u h => by
  obtain ⟨h1, h2⟩ := hid_some h
  have n : a ≠ p := ne_of_none h1 np
  exact hid_of (by rw [upd_ne n]; exact h1) fun z => z.elim h2 n
theorem ge_lstO {pos : Pos} (ha : GA X G es wa) : GE X G (.List es pos) (wLstO wa) := by
  refine ⟨pe_imp (pe_lst ha.pa) fun σ H Q ⟨T, env, F, r, q⟩ => ⟨T, env, F, r, ha.mono env _ _ (fun as e ⟨ds, hd, hl, q⟩ vs T1 H1 F1 Fa a1 z1 => ?_) q⟩, fun env Q Q' i q => ha.mono env _ _ (fun as e ⟨ds, hd, hl, q⟩ => ⟨ds, hd, hl, i _ _ q⟩) q⟩
  have fz := args_fz z1 hd
  refine ⟨by rw [fz.length]; exact hl, fun p np => ?_⟩
  exact q _ _ _ F1 [p] (a1.trans r.trk (att_new a1.re np)) (res_trans r.trk a1 (own_new a1.re np (.lst (.inr rfl) upd_same (fz.ex (hid_new np)))))
end
end Fx

namespace Fx
open PySem PySem.Spec PyProof.Rows L2 Evl Lk

/-- a result that is handed out of the frame -/
structure ResS (G : Gx) (T : Addr → Prop) (H : Hp) (env : Env) (F : Nat → List Addr) (r : Sl) (v : V) (fr : List Addr) : Prop where
  rel : SlR G T H r v fr
  nv : ∀ o, r ≠ .vw o
  dis : ∀ o, r = .own o → ∀ i, IsS env i → ∀ a ∈ fr, a ∉ F i
  from_ : ∀ o, r = .own o → ∀ a ∈ fr, G.P0 a ∨ G.H0 a = none
/-- what is wanted, over trees; h0: what is not owned as the statement begins -/
def toD (G : Gx) (h0 : Hp) (D : Ends) : WEnds where
  nx := fun env => ∀ σ T H F, RE G T H σ env F → Ex h0 (hid T H) → D.nx σ H
  rt := fun r env => ∀ v σ T H F fr, RE G T H σ env F → ResS G T H env F r v fr → D.rt v H
  bk := fun env => ∀ σ T H F, RE G T H σ env F → Ex h0 (hid T H) → D.bk σ H
  ct := fun env => ∀ σ T H F, RE G T H σ env F → Ex h0 (hid T H) → D.ct σ H
theorem toD_le {G : Gx} {h0 h1 : Hp} {D : Ends} (e : Ex h0 h1) : (toD G h0 D).Le (toD G h1 D) :=
  ⟨fun env q σ T H F r x => q σ T H F r (e.trans x), fun _ _ q => q, fun env q σ T H F r x => q σ T H F r (e.trans x), fun env q σ T H F r x => q σ T H F r (e.trans x)⟩
def tWS (G : Gx) (w : WS) : TS := fun D σ H => ∃ T env F, RE G T H σ env F ∧ w (toD G (hid T H) D) env
structure GS (X : Cx) (G : Gx) (st : Stmt) (w : WS) : Prop where
  ps : PS X st (tWS G w)
  mono : MonoS w
structure GSs (X : Cx) (G : Gx) (st : List Stmt) (w : WS) : Prop where
  pss : PSs X st (tWS G w)
  mono : MonoS w
def wNext : WS := fun D env => D.nx env
def wSeq (w1 w2 : WS) : WS := fun D env => w1 { D with nx := fun e => w2 D e } env
def wRet (w : WE) : WS := fun D env => w env fun r e => (∀ o, r ≠ .vw o) ∧ D.rt r e
def wIfS (t : WT) (w1 w2 : WS) : WS := fun D env => t env fun b e => if b = true then w1 D e else w2 D e
def wSet (i : Nat) (w : WE) : WS := fun D env => w env fun r e => (∀ o, r ≠ .vw o) ∧ i < e.length ∧ D.nx (e.set i (some r))
abbrev WG := D → Env → (Env → Prop) → Prop
abbrev WGs := List D → Env → (Env → Prop) → Prop
def MonoG (g : WG) : Prop := ∀ d env (Q Q' : Env → Prop), (∀ e, Q e → Q' e) → g d env Q → g d env Q'
def MonoGs (g : WGs) : Prop := ∀ d env (Q Q' : Env → Prop), (∀ e, Q e → Q' e) → g d env Q → g d env Q'
def tWG (G : Gx) (g : WG) : TG := fun v σ H Q => ∃ T env F d, RE G T H σ env F ∧ Fz G.K (hid T H) v d ∧ g d env fun env' => ∀ σ' T' H' F', RE G T' H' σ' env' F' → Ex (hid T H) (hid T' H') → Q σ' H'
def tWGs (G : Gx) (g : WGs) : TGs := fun vs σ H Q => ∃ T env F ds, RE G T H σ env F ∧ FzL G.K (hid T H) vs ds ∧ g ds env fun env' => ∀ σ' T' H' F', RE G T' H' σ' env' F' → Ex (hid T H) (hid T' H') → Q σ' H'
structure GG (X : Cx) (G : Gx) (tg : Expr) (g : WG) : Prop where
  pg : PG X tg (tWG G g)
  mono : MonoG g
  keep : ∀ d env Q, g d env Q → g d env Q
def gn (i : Nat) : WG := fun d env Q => i < env.length ∧ Q (env.set i (some (.f d)))
def gsNil : WGs := fun ds env Q => ds = [] ∧ Q env
def gsCons (g : WG) (u : WGs) : WGs := fun ds env Q => ∃ d r, ds = d :: r ∧ g d env fun e => u r e Q
def gTp (n : Nat) (u : WGs) : WG := fun d env Q => ∃ ds, d = .tup ds ∧ ds.length = n ∧ u ds env Q
def wAsg (w : WE) (g : WG) : WS := fun D env => w env fun r e => ∃ d, r = .f d ∧ g d e D.nx
section
variable {X : Cx} {G : Gx} {st : Stmt} {rest : List Stmt} {w w1 w2 : WS} {we : WE} {t : WT} {e : Expr} {pos : Pos}
theorem gss_nil : GSs X G [] wNext := ⟨pss_imp pss_nil fun D σ H ⟨T, env, F, r, q⟩ => q σ T H F r (Ex.refl _), fun _ _ _ l q => l.nx _ q⟩
theorem gss_one (h : GS X G st w) : GSs X G [st] w := ⟨pss_one h.ps, h.mono⟩
theorem gss_cons (h : GS X G st w1) (h2 : GSs X G rest w2) : GSs X G (st :: rest) (wSeq w1 w2) := by
  refine ⟨pss_imp (pss_cons h.ps h2.pss) fun D σ H ⟨T, env, F, r, q⟩ => ⟨T, env, F, r, h.mono { toD G (hid T H) D with nx := fun e => w2 (toD G (hid T H) D) e } _ env ⟨fun e q σ' T' H' F' r' x => ⟨T', e, F', r', h2.mono _ _ _ (toD_le x) q⟩, fun _ _ q => q, fun _ q => q, fun _ q => q⟩ q⟩, fun D D' env l q => h.mono { D with nx := fun e => w2 D e } _ env ⟨fun e q => h2.mono D D' e l q, l.rt, l.bk, l.ct⟩ q⟩
theorem resS {T T1 : Addr → Prop} {H H1 : Hp} {σ : L2.St} {env env1 : Env} {F F1 : Nat → List Addr} {s : Sl} {v : V} {fr : List Addr} (r : RE G T H σ env F) (z : Res G T H env F T1 H1 env1 F1 s v fr) (nv : ∀ o, s ≠ .vw o) : ResS G T1 H1 env1 F1 s v fr :=
  ⟨z.rel, nv, z.dis, fun o e a ha => by
    rcases z.from_ o e a ha with q | q
    · exact r.ow a q
    · refine .inr ?_
      cases e : G.H0 a with
      | none => rfl
      | some u => exact absurd q (r.st.dom a (by rw [e]; exact nofun))⟩
theorem gs_ret (h : GE X G e we) : GS X G (.Return (some e) pos) (wRet we) := by
  refine ⟨ps_imp (ps_ret h.pe) fun D σ H ⟨T, env, F, r, q⟩ => ⟨T, env, F, r, h.mono _ _ _ (fun s e ⟨nv, q⟩ v T' H' F' fr a z => ?_) q⟩, fun D D' env l q => h.mono _ _ _ (fun s e ⟨nv, q⟩ => ⟨nv, l.rt _ _ q⟩) q⟩
  exact q v σ T' H' F' fr a.re (resS r z nv)
theorem gs_if {a b : List Stmt} {c : Expr} (hc : GT X G c t) (ha : GSs X G a w1) (hb : GSs X G b w2) : GS X G (.If c a b pos) (wIfS t w1 w2) := by
  refine ⟨ps_imp (ps_if hc.pt ha.pss hb.pss) fun D σ H ⟨T, env, F, r, q⟩ => ⟨T, env, F, r, hc.mono _ _ _ (fun k e q T' H' F' a => ?_) q⟩, fun D D' env l q => hc.mono _ _ _ (fun k e q => ?_) q⟩
  · cases k with
    | true => exact ite_tt ⟨T', e, F', a.re, ha.mono _ _ _ (toD_le (a.chg.hid r.sub)) q⟩
    | false => exact ite_ff ⟨T', e, F', a.re, hb.mono _ _ _ (toD_le (a.chg.hid r.sub)) q⟩
  · cases k with
    | true => exact ha.mono _ _ _ l q
    | false => exact hb.mono _ _ _ l q
theorem gs_set {i : Nat} (h : PS X st (tAsg (tW G we) (gName i))) (m : MonoE we) (hp : G.prot i = false) : GS X G st (wSet i we) := by
  refine ⟨ps_imp h fun D σ H ⟨T, env, F, r, q⟩ => ⟨T, env, F, r, m _ _ _ (fun s e ⟨nv, hi, q⟩ v T' H' F' fr a z => ?_) q⟩, fun D D' env l q => m _ _ _ (fun s e ⟨nv, hi, q⟩ => ⟨nv, hi, l.nx _ q⟩) q⟩
  have zs := resS r z nv
  exact q _ T' H' _ (a.re.store i (by rw [← a.re.len]; exact hi) hp nv z.rel z.dis zs.from_) (a.chg.hid r.sub)
/-! targets -/
theorem gg_name {i : Nat} (h : PG X e (gName i)) (hp : G.prot i = false) : GG X G e (gn i) := by
  refine ⟨⟨fun pins s σ H v u Q I rv ⟨T, env, F, d, r, fz, hi, q⟩ => h.run pins s σ H v u Q I rv ?_⟩, fun d env Q Q' i ⟨hi, q⟩ => ⟨hi, i _ q⟩, fun _ _ _ q => q⟩
  exact q _ T H _ (r.store i (by rw [← r.len]; exact hi) hp nofun (fr := []) ⟨fz, rfl⟩ nofun nofun) (Ex.refl _)
structure GGs (X : Cx) (G : Gx) (ts : List Expr) (g : WGs) : Prop where
  pg : PGs X ts (tWGs G g)
  mono : MonoGs g
theorem ggs_nil : GGs X G [] gsNil := by
  refine ⟨⟨fun pins s σ H vs us Q I rv ⟨T, env, F, ds, r, fz, hd, q⟩ => pgs_nil.run pins s σ H vs us Q I rv ?_⟩, fun d env Q Q' i ⟨hi, q⟩ => ⟨hi, i _ q⟩⟩
  subst hd
  cases fz
  exact ⟨rfl, q σ T H F r (Ex.refl _)⟩
theorem ggs_cons {es : List Expr} {i : Nat} {u : WGs} (h : PG X e (gName i)) (hp : G.prot i = false) (h2 : GGs X G es u) (hs : (assignEach (e :: es) X.env).map (·.2) = assign e X.env :: (assignEach es X.env).map (·.2) := by rfl) : GGs X G (e :: es) (gsCons (gn i) u) := by
  refine ⟨⟨fun pins s σ H vs us Q I rv ⟨T, env, F, ds, r, fz, d, dr, hd, hi, q⟩ => (pgs_cons h h2.pg hs).run pins s σ H vs us Q I rv ?_⟩, fun d env Q Q' i ⟨d1, dr, hd, hi, q⟩ => ⟨d1, dr, hd, hi, h2.mono _ _ _ _ i q⟩⟩
  subst hd
  cases fz with
  | cons f1 f2 => exact ⟨_, _, rfl, T, _, _, dr, r.store (r := .f _) i (by rw [← r.len]; exact hi) hp nofun (fr := []) ⟨f1, rfl⟩ nofun nofun, f2, q⟩
theorem gg_tup {es : List Expr} {k n : Nat} {u : WGs} (hc : X.calm = true) (h : GGs X G es u) (hK : X.K = G.K := by rfl) (hn : (assignEach es X.env).length = n := by rfl) (hst : (assignEach es X.env).findIdx? (·.1) = none := by rfl) : GG X G (.Tuple es k pos) (gTp n u) := by
  refine ⟨⟨fun pins s σ H v uu Q I rv ⟨T, env, F, d, r, fz, ds, hd, hl, q⟩ => (pg_tup hc h.pg hn hst).run pins s σ H v uu Q I rv ?_⟩, fun d env Q Q' i ⟨ds, hd, hl, q⟩ => ⟨ds, hd, hl, h.mono _ _ _ _ i q⟩, fun _ _ _ q => q⟩
  subst hd
  cases fz with
  | tup a b => exact ⟨_, _, rfl, by rw [hK]; exact ex_t hid_ex a, b.length.trans hl, T, env, F, ds, r, b, q⟩
theorem gs_asg {tg : Expr} {g : WG} (he : GE X G e we) (hg : GG X G tg g) (hs : swapsWithSole [tg] e pos.line X.env = pure false := by rfl) (hw : swappedStores [tg] e X.env = pure none := by rfl)
    (h1 : (assignEach [tg] X.env).map (·.2) = [assign tg X.env] := by rfl) : GS X G (.Assign [tg] e pos) (wAsg we g) := by
  refine ⟨ps_imp (ps_asg he.pe hg.pg hs hw h1) fun D σ H ⟨T, env, F, r, q⟩ => ⟨T, env, F, r, he.mono _ _ _ (fun s e ⟨d, hd, q⟩ v T' H' F' fr a z => ?_) q⟩, fun D D' env l q => he.mono _ _ _ (fun s e ⟨d, hd, q⟩ => ⟨d, hd, hg.mono _ _ _ _ l.nx q⟩) q⟩
  subst hd
  exact ⟨T', e, F', d, a.re, z.rel.1, hg.mono _ _ _ _ (fun e q σ' T2 H2 F2 r2 x => q σ' T2 H2 F2 r2 ((a.chg.hid r.sub).trans x)) q⟩
/-! ### an owned list at a slot -/
theorem own_lst {T : Addr → Prop} {H : Hp} {σ : L2.St} {env : Env} {F : Nat → List Addr} {k : Nat} {ds : List D} (r : RE G T H σ env F) (hk : env[k]? = some (some (.own (.lst ds)))) :
    ∃ p vs, σ[k]? = some (some (.ref p)) ∧ H p = some (.lst vs) ∧ FzL G.K (hid T H) vs ds ∧
      ∀ vs' ds', FzL G.K (hid T H) vs' ds' → Att G σ T H env F T (upd H p (.lst vs')) (env.set k (some (.own (.lst ds')))) F := by
  obtain ⟨v, h1, h2⟩ := r.slot k _ hk
  have h2 : Ow G.K T H (.lst ds) v (F k) := h2
  generalize hF : F k = fk at h2
  cases h2 with
  | lst a b c =>
    rename_i p vs
    refine ⟨p, vs, h1, b, c, fun vs' ds' fz => ?_⟩
    have hkl : k < env.length := (List.getElem?_eq_some_iff.mp hk).1
    have hP : OwnP env F p := ⟨k, ⟨_, hk⟩, by rw [hF]; exact List.mem_singleton.mpr rfl⟩
    have ch1 : Chg T H (fun x => x = p) T (upd H p (.lst vs')) := Chg.write r.trk rfl
    have ch : Chg T H (OwnP env F) T (upd H p (.lst vs')) := Chg.write r.trk hP
    have he : Ex (hid T H) (hid T (upd H p (.lst vs'))) := ch.hid r.sub
    have ownb : ∀ j, IsOwn (env.set k (some (.own (.lst ds')))) j → IsOwn env j := fun j ⟨o, h⟩ => by
      rcases set_get h with ⟨e, _⟩ | ⟨_, h⟩
      · rw [e]; exact ⟨_, hk⟩
      · exact ⟨o, h⟩
    have isb : ∀ j, IsS (env.set k (some (.own (.lst ds')))) j → IsS env j := fun j ⟨o, h⟩ => by
      rcases set_get h with ⟨e, _⟩ | ⟨_, h⟩
      · rw [e]; exact ⟨_, hk⟩
      · exact ⟨o, h⟩
    refine ⟨ch, ⟨ch.tr, fun q hq => ?_, fun j s hj => ?_, fun i j n h1 h2 => r.dis i j n (ownb i h1) (isb j h2), r.st.trans r.t0 ch r.ow, fun x ⟨j, hj, hx⟩ => r.ow x ⟨j, ownb j hj, hx⟩, r.t0, r.pin, by rw [List.length_set]; exact r.len, r.hx.trans he⟩, fun x ⟨j, hj, hx⟩ => .inl ⟨j, ownb j hj, hx⟩, fun j o h => ?_⟩
    · obtain ⟨t1, t2⟩ := r.tab q hq
      exact ⟨by rw [upd_ne (fun e => t2 (by rw [e]; exact a))]; exact t1, t2⟩
    · rcases set_get hj with ⟨e, e1⟩ | ⟨e, hj⟩
      · cases e1
        subst e
        refine ⟨.ref p, h1, ?_⟩
        rw [hF]
        exact Ow.lst a upd_same (fz.ex he)
      · obtain ⟨v', g1, g2⟩ := r.slot j s hj
        refine ⟨v', g1, g2.chg ch1 (fun x hx => by rw [hx]; exact a) fun x hx hxp => ?_⟩
        refine r.dis k j (Ne.symm e) ⟨_, hk⟩ ⟨_, hj⟩ p (by rw [hF]; exact List.mem_singleton.mpr rfl) ?_
        rw [← hxp]
        exact hx
    · rcases set_get h with ⟨_, e⟩ | ⟨_, h⟩
      · cases e
      · exact ⟨h, rfl⟩
end
end Fx

namespace Fx
open PySem PySem.Spec PyProof.Rows L2 Evl Lk

/-! ### what is walked -/
structure ItD (K : PySem.W.Frag) (J : It) (Bs : (Addr → Prop) → Hp → Prop) (ds : List D) : Prop where
  go : ∀ i T H, Trk T H → Bs T H → i < ds.length → J.go i H ∧ ∀ v H', J.yld i H v H' → ∃ d, ds[i]? = some d ∧ Ex H H' ∧ Fz K (hid T H') v d
  stop : ∀ i T H, Bs T H → i = ds.length → J.stop i H
  keep : ∀ T H T' H', Bs T H → Ex (hid T H) (hid T' H') → Bs T' H'
abbrev WI := Env → (List D → Env → Prop) → Prop
def MonoI (w : WI) : Prop := ∀ env (Q Q' : List D → Env → Prop), (∀ r e, Q r e → Q' r e) → w env Q → w env Q'
def tWI (G : Gx) (w : WI) : TI := fun σ H R => ∃ T env F, RE G T H σ env F ∧ w env fun ds env' => ∀ J T' H' F' Bs, Att G σ T H env F T' H' env' F' → ItD G.K J Bs ds → Bs T' H' → R J H'
structure GI (X : Cx) (G : Gx) (tg iter : Expr) (w : WI) : Prop where
  pi : PI X tg iter (tWI G w)
  mono : MonoI w
section
variable {X : Cx} {G : Gx} {tg iter e : Expr} {w : WE} {wa : WA} {pos : Pos}
theorem pi_imp {t t' : TI} (h : PI X tg iter t) (i : ∀ σ H R, t' σ H R → t σ H R) : PI X tg iter t' := ⟨fun pins s σ H R I q => h.run pins s σ H R I (i σ H R q)⟩
/-- a list, a tuple, a text -/
def wiL (w : WE) : WI := fun env Q => w env fun r e => ∃ ds, r = .f (.lst ds) ∧ Q ds e
def wiT (w : WE) : WI := fun env Q => w env fun r e => ∃ ds, r = .f (.tup ds) ∧ Q ds e
def signs (x : Str) : List D := x.cps.toList.map fun c => .str ⟨#[c]⟩
def wiS (w : WE) : WI := fun env Q => w env fun r e => ∃ x, r = .f (.str x) ∧ Q (signs x) e
theorem itd_list {K : PySem.W.Frag} {a : Addr} {ds : List D} : ItD K (Itl K a) (fun T H => Fz K (hid T H) (.ref a) (.lst ds)) ds where
  go := fun i T H t h hi => by
    cases h with
    | lst l fl =>
      rename_i vs
      have hv : i < vs.length := by rw [fl.length]; exact hi
      refine ⟨⟨vs, _, ex_l hid_ex l, List.getElem?_eq_getElem hv⟩, fun v H' ⟨e, y⟩ => ?_⟩
      subst e
      exact ⟨_, List.getElem?_eq_getElem hi, Ex.refl _, fl.get (y vs (ex_l hid_ex l)) (List.getElem?_eq_getElem hi)⟩
  stop := fun i T H h hi => by
    cases h with
    | lst l fl => exact ⟨_, ex_l hid_ex l, by rw [fl.length, hi]; exact Nat.le_refl _⟩
  keep := fun T H T' H' h e => h.ex e
theorem itd_tup {K : PySem.W.Frag} {a : Addr} {ds : List D} : ItD K (Itt K a) (fun T H => Fz K (hid T H) (.ref a) (.tup ds)) ds where
  go := fun i T H t h hi => by
    cases h with
    | tup l fl =>
      rename_i vs
      have hv : i < vs.length := by rw [fl.length]; exact hi
      refine ⟨⟨vs, _, ex_t hid_ex l, List.getElem?_eq_getElem hv⟩, fun v H' ⟨e, y⟩ => ?_⟩
      subst e
      exact ⟨_, List.getElem?_eq_getElem hi, Ex.refl _, fl.get (y vs (ex_t hid_ex l)) (List.getElem?_eq_getElem hi)⟩
  stop := fun i T H h hi => by
    cases h with
    | tup l fl => exact ⟨_, ex_t hid_ex l, by rw [fl.length, hi]; exact Nat.le_refl _⟩
  keep := fun T H T' H' h e => h.ex e
theorem itd_str {K : PySem.W.Frag} {x : Str} : ItD K (Its x) (fun _ _ => True) (signs x) where
  go := fun i T H t h hi => by
    have hl : (signs x).length = x.cps.size := by unfold signs; simp
    refine ⟨(show i < x.cps.size by rw [← hl]; exact hi), fun v H' ⟨e, c, hc, ev⟩ => ?_⟩
    subst e ev
    refine ⟨.str ⟨#[c]⟩, ?_, Ex.refl _, .str _⟩
    unfold signs
    rw [List.getElem?_map, Array.getElem?_toList, hc] <;> rfl
  stop := fun i T H h hi => by
    have hl : (signs x).length = x.cps.size := by unfold signs; simp
    show x.cps.size ≤ i
    rw [hi, hl] <;> exact Nat.le_refl _
  keep := fun _ _ _ _ _ _ => trivial
theorem itd_rng {K : PySem.W.Frag} {lo : Int} {n : Nat} : ItD K (Itr lo n) (fun _ _ => True) ((List.range n).map fun k : Nat => .int (lo + (k : Int))) where
  go := fun i T H t h hi => by
    have hi' : i < n := by simpa using hi
    refine ⟨hi', fun v H' ⟨e, ev⟩ => ?_⟩
    subst e ev
    exact ⟨.int (lo + (i : Int)), by rw [List.getElem?_map, List.getElem?_range hi'] <;> rfl, Ex.refl _, .int _⟩
  stop := fun i T H h hi => by
    show n ≤ i
    rw [hi] <;> simp
  keep := fun _ _ _ _ _ _ => trivial
theorem gi_list (h : GE X G e w) (hK : X.K = G.K := by rfl) : GI X G tg e (wiL w) := by
  refine ⟨pi_imp (pi_list h.pe) fun σ H R ⟨T, env, F, r, q⟩ => ⟨T, env, F, r, h.mono _ _ _ (fun s e ⟨ds, hd, q⟩ v T' H' F' fr a z => ?_) q⟩, fun env Q Q' i q => h.mono _ _ _ (fun s e ⟨ds, hd, q⟩ => ⟨ds, hd, i _ _ q⟩) q⟩
  subst hd
  have fz := z.rel.1
  cases id fz with
  | lst l fl =>
    rw [hK]
    exact ⟨_, rfl, ⟨_, ex_l hid_ex l⟩, q _ T' H' F' _ a itd_list fz⟩
theorem gi_tup (h : GE X G e w) (hK : X.K = G.K := by rfl) : GI X G tg e (wiT w) := by
  refine ⟨pi_imp (pi_tup h.pe) fun σ H R ⟨T, env, F, r, q⟩ => ⟨T, env, F, r, h.mono _ _ _ (fun s e ⟨ds, hd, q⟩ v T' H' F' fr a z => ?_) q⟩, fun env Q Q' i q => h.mono _ _ _ (fun s e ⟨ds, hd, q⟩ => ⟨ds, hd, i _ _ q⟩) q⟩
  subst hd
  have fz := z.rel.1
  cases id fz with
  | tup l fl =>
    rw [hK]
    exact ⟨_, rfl, ⟨_, ex_t hid_ex l⟩, q _ T' H' F' _ a itd_tup fz⟩
theorem gi_str (h : GE X G e w) : GI X G tg e (wiS w) := by
  refine ⟨pi_imp (pi_str h.pe) fun σ H R ⟨T, env, F, r, q⟩ => ⟨T, env, F, r, h.mono _ _ _ (fun s e ⟨x, hd, q⟩ v T' H' F' fr a z => ?_) q⟩, fun env Q Q' i q => h.mono _ _ _ (fun s e ⟨ds, hd, q⟩ => ⟨ds, hd, i _ _ q⟩) q⟩
  subst hd
  have fz := z.rel.1
  cases fz
  exact ⟨_, rfl, q _ T' H' F' _ a itd_str trivial⟩
def wiR1 (wa : WA) : WI := fun env Q => wa env fun as e => ∃ j : Int, as = [.v (.f (.int j))] ∧ -(2 ^ 62) ≤ j ∧ j < 2 ^ 62 ∧ Q ((List.range j.toNat).map fun k : Nat => .int (0 + (k : Int))) e
def wiR2 (wa : WA) : WI := fun env Q => wa env fun as e => ∃ i j : Int, as = [.v (.f (.int i)), .v (.f (.int j))] ∧ (-(2 ^ 62) ≤ i ∧ i < 2 ^ 62 ∧ -(2 ^ 62) ≤ j ∧ j < 2 ^ 62) ∧ Q ((List.range (j - i).toNat).map fun k : Nat => .int (i + (k : Int))) e
theorem args1 {σ : L2.St} {T0 T : Addr → Prop} {H0 H : Hp} {env0 env : Env} {F0 F : Nat → List Addr} {vs : List V} {Fa : Nat → List Addr} {d : D} (z : ArgR G σ T0 H0 env0 F0 T H env F [.v (.f d)] vs Fa) : ∃ v, vs = [v] ∧ Fz G.K (hid T H) v d := by
  have fz := args_fz z (ds := [d]) rfl
  cases fz with
  | cons a b => cases b; exact ⟨_, rfl, a⟩
theorem args2 {σ : L2.St} {T0 T : Addr → Prop} {H0 H : Hp} {env0 env : Env} {F0 F : Nat → List Addr} {vs : List V} {Fa : Nat → List Addr} {d d2 : D} (z : ArgR G σ T0 H0 env0 F0 T H env F [.v (.f d), .v (.f d2)] vs Fa) : ∃ v v2, vs = [v, v2] ∧ Fz G.K (hid T H) v d ∧ Fz G.K (hid T H) v2 d2 := by
  have fz := args_fz z (ds := [d, d2]) rfl
  cases fz with
  | cons a b => cases b with
    | cons b c => cases c; exact ⟨_, _, rfl, a, b⟩
theorem gi_r1 {a : Expr} {p : Pos} (hg : Gl X "range") (hm : X.mg "range" = none) (ha : GA X G [a] wa) (hs : starEach [a] X.env = [(false, eval a X.env)] := by rfl) : GI X G tg (.Call (.Name "range" p) [a] [] pos) (wiR1 wa) := by
  refine ⟨pi_imp (pi_range1 hg hm ha.pa hs) fun σ H R ⟨T, env, F, r, q⟩ => ⟨T, env, F, r, ha.mono _ _ _ (fun as e ⟨j, hj, h1, h2, q⟩ vs T' H' F' Fa a z => ?_) q⟩, fun env Q Q' i q => ha.mono _ _ _ (fun s e ⟨j, hj, h1, h2, q⟩ => ⟨j, hj, h1, h2, i _ _ q⟩) q⟩
  subst hj
  obtain ⟨v, rfl, fz⟩ := args1 z
  cases fz
  exact ⟨j, rfl, h1, h2, q _ T' H' F' _ a itd_rng trivial⟩
theorem gi_r2 {a b : Expr} {p : Pos} (hg : Gl X "range") (hm : X.mg "range" = none) (ha : GA X G [a, b] wa) (hs : starEach [a, b] X.env = [(false, eval a X.env), (false, eval b X.env)] := by rfl) (hs2 : starEach [b] X.env = [(false, eval b X.env)] := by rfl) : GI X G tg (.Call (.Name "range" p) [a, b] [] pos) (wiR2 wa) := by
  refine ⟨pi_imp (pi_range2 hg hm ha.pa hs hs2) fun σ H R ⟨T, env, F, r, q⟩ => ⟨T, env, F, r, ha.mono _ _ _ (fun as e ⟨i, j, hj, h1, q⟩ vs T' H' F' Fa a z => ?_) q⟩, fun env Q Q' ii q => ha.mono _ _ _ (fun s e ⟨i, j, hj, h1, q⟩ => ⟨i, j, hj, h1, ii _ _ q⟩) q⟩
  subst hj
  obtain ⟨v, v2, rfl, fz, fz2⟩ := args2 z
  cases fz
  cases fz2
  exact ⟨i, j, rfl, h1, q _ T' H' F' _ a itd_rng trivial⟩
/-! ### for -/
def wFor (wi : WI) (g : WG) (w : WS) : WS := fun D env => wi env fun ds e0 => ∃ J : Nat → Env → Prop, J 0 e0 ∧ (∀ i d e, ds[i]? = some d → J i e → g d e fun e' => w { nx := J (i + 1), ct := J (i + 1), bk := D.nx, rt := D.rt } e') ∧ ∀ e, J ds.length e → D.nx e
theorem gs_for {wi : WI} {g : WG} {ws : WS} {body : List Stmt} (hp : PassesOwn (model X.prog X.w) X.A X.env X.xe) (hc : X.calm = true) (hi : GI X G tg iter wi) (hg : GG X G tg g) (hb : GSs X G body ws) (hs : ∀ x, foldedSetIterable iter X.env x = pure x := by intro _; rfl) : GS X G (.For tg iter body [] pos) (wFor wi g ws) := by
  refine ⟨ps_imp (ps_for hp hc hi.pi hg.pg hb.pss hs) fun D σ H ⟨T, env, F, r, q⟩ => ⟨T, env, F, r, hi.mono _ _ _ (fun ds e0 ⟨J, j0, js, jd⟩ It T1 H1 F1 Bs a it b0 => ?_) q⟩, fun D D' env l q => hi.mono _ _ _ (fun ds e0 ⟨J, j0, js, jd⟩ => ⟨J, j0, fun i d e hd hj => hg.mono _ _ _ _ (fun e' q => hb.mono { nx := J (i + 1), ct := J (i + 1), bk := D.nx, rt := D.rt } _ _ ⟨fun _ q => q, fun s e q => l.rt s e q, fun e q => l.nx e q, fun _ q => q⟩ q) (js i d e hd hj), fun e hj => l.nx e (jd e hj)⟩) q⟩
  refine ⟨fun i m σ H => m = ds.length - i ∧ i ≤ ds.length ∧ ∃ T' env' F', RE G T' H σ env' F' ∧ Bs T' H ∧ J i env' ∧ Ex (hid T1 H1) (hid T' H), ⟨_, rfl, Nat.zero_le _, T1, e0, F1, a.re, b0, j0, Ex.refl _⟩, ?_⟩
  rintro i m σ' H' ⟨rfl, hi', T', env', F', r', b', j', x'⟩
  have x0 := (a.chg.hid r.sub).trans x'
  by_cases hlt : i < ds.length
  · obtain ⟨go, yl⟩ := it.go i T' H' r'.trk b' hlt
    refine .inr ⟨go, fun σ2 H2 => ∃ T2 env2 F2, RE G T2 H2 σ2 env2 F2 ∧ Bs T2 H2 ∧ J (i + 1) env2 ∧ Ex (hid T1 H1) (hid T2 H2), fun σ2 H2 ⟨T2, env2, F2, r2, b2, j2, x2⟩ => ⟨ds.length - (i + 1), by omega, rfl, hlt, T2, env2, F2, r2, b2, j2, x2⟩, fun v H2 y => ?_⟩
    obtain ⟨d, hd, ex, fz⟩ := yl v H2 y
    have xi : Ex (hid T' H') (hid T' H2) := hid_mono ex
    refine ⟨T', env', F', d, r'.ex ex, fz, hg.mono _ _ _ _ (fun e' q σ3 T3 H3 F3 r3 x3 => ?_) (js i d env' hd j')⟩
    refine ⟨T3, e', F3, r3, hb.mono { nx := J (i + 1), rt := (toD G (hid T H) D).rt, bk := (toD G (hid T H) D).nx, ct := J (i + 1) } _ _ ⟨fun e q σ4 T4 H4 F4 r4 x4 => ?_, fun s e q => q, fun e q σ4 T4 H4 F4 r4 x4 => ?_, fun e q σ4 T4 H4 F4 r4 x4 => ?_⟩ q⟩
    · have xx := (xi.trans x3).trans x4
      exact ⟨T4, e, F4, r4, it.keep _ _ _ _ b' xx, q, x'.trans xx⟩
    · exact q σ4 T4 H4 F4 r4 (((x0.trans xi).trans x3).trans x4)
    · have xx := (xi.trans x3).trans x4
      exact ⟨T4, e, F4, r4, it.keep _ _ _ _ b' xx, q, x'.trans xx⟩
  · have e : i = ds.length := by omega
    subst e
    exact .inl ⟨it.stop _ T' H' b' rfl, jd env' j' σ' T' H' F' r' x0⟩
/-! ### while -/
def wWhile (t : WT) (w : WS) : WS := fun D env => ∃ J : Nat → Env → Prop, (∃ m, J m env) ∧ ∀ m e, J m e → t e fun b e' => if b = true then w { nx := fun e2 => ∃ m', m' < m ∧ J m' e2, ct := fun e2 => ∃ m', m' < m ∧ J m' e2, bk := D.nx, rt := D.rt } e' else D.nx e'
theorem gs_while {t : WT} {ws : WS} {c : Expr} {body : List Stmt} (hp : PassesOwn (model X.prog X.w) X.A X.env X.xe) (hc : GT X G c t) (hb : GSs X G body ws) : GS X G (.While c body [] pos) (wWhile t ws) := by
  refine ⟨ps_imp (ps_while hp hc.pt hb.pss) fun D σ H ⟨T, env, F, r, J, ⟨m0, j0⟩, js⟩ => ?_, fun D D' env l ⟨J, j0, js⟩ => ⟨J, j0, fun m e hj => hc.mono _ _ _ (fun b e' q => ?_) (js m e hj)⟩⟩
  · refine ⟨fun m σ H' => ∃ T' env' F', RE G T' H' σ env' F' ∧ J m env' ∧ Ex (hid T H) (hid T' H'), ⟨m0, T, env, F, r, j0, Ex.refl _⟩, ?_⟩
    rintro m σ' H' ⟨T', env', F', r', j', x'⟩
    refine ⟨T', env', F', r', hc.mono _ _ _ (fun b e q T2 H2 F2 a => ?_) (js m env' j')⟩
    have x2 := x'.trans (a.chg.hid r'.sub)
    cases b with
    | true =>
      refine ite_tt ⟨fun σ3 H3 => ∃ m', m' < m ∧ ∃ T3 env3 F3, RE G T3 H3 σ3 env3 F3 ∧ J m' env3 ∧ Ex (hid T H) (hid T3 H3), fun σ3 H3 q => q, T2, e, F2, a.re, hb.mono { nx := fun e2 => ∃ m', m' < m ∧ J m' e2, ct := fun e2 => ∃ m', m' < m ∧ J m' e2, bk := (toD G (hid T H) D).nx, rt := (toD G (hid T H) D).rt } _ _ ⟨fun e3 ⟨m', hm, hj⟩ σ3 T3 H3 F3 r3 x3 => ⟨m', hm, T3, e3, F3, r3, hj, x2.trans x3⟩, fun s e q => q, fun e3 q σ3 T3 H3 F3 r3 x3 => q σ3 T3 H3 F3 r3 (x2.trans x3), fun e3 ⟨m', hm, hj⟩ σ3 T3 H3 F3 r3 x3 => ⟨m', hm, T3, e3, F3, r3, hj, x2.trans x3⟩⟩ q⟩
    | false => exact ite_ff (q σ' T2 H2 F2 a.re x2)
  · cases b with
    | true => exact hb.mono { nx := fun e2 => ∃ m', m' < m ∧ J m' e2, ct := fun e2 => ∃ m', m' < m ∧ J m' e2, bk := D.nx, rt := D.rt } _ _ ⟨fun _ q => q, l.rt, l.nx, fun _ q => q⟩ q
    | false => exact l.nx _ q
end
end Fx

namespace Fx
open PySem PySem.Spec PyProof.Rows L2 Evl Lk

/-! ### what a def promises, over trees: the arguments, what is wanted of its value and of the arguments behind it -/
abbrev WD := List Sl → (Sl → List Sl → Prop) → Prop
def gA (K : PySem.W.Frag) (tabs : List Addr) (T : Addr → Prop) (H : Hp) (as : List Sl) (F : Nat → List Addr) (vs : List V) : Gx := ⟨K, tabs, T, H, OwnP (as.map some) F, vs.map some, fun _ => true, fun _ _ => False, fun _ => none⟩
def spW (K : PySem.W.Frag) (tabs : List Addr) (W : WD) : Sp := fun vs H Q _ => ∃ T as F, RE (gA K tabs T H as F vs) T H (vs.map some) (as.map some) F ∧
  W as fun r as' => ∀ v T' H' F' fr, RE (gA K tabs T H as F vs) T' H' (vs.map some) (as'.map some) F' → (∀ j o, as'[j]? = some (.vw o) → as[j]? = some (.vw o) ∧ F' j = F j) → ResS (gA K tabs T H as F vs) T' H' (as'.map some) F' r v fr → Q v H'
/-- the arguments behind the body: what is handed on owned stands in its slot -/
def outA : List Bool → List Sl → Env → List Sl
  | b :: fl, s :: as, e :: env => (if b = true then e.getD s else s) :: outA fl as env
  | _, _, _ => []
def OutOk : List Bool → List Sl → Env → Prop
  | b :: fl, s :: as, e :: env => (if b = true then ∃ o, e = some (.own o) else ∀ o, s ≠ .own o) ∧ OutOk fl as env
  | [], [], _ => True
  | _, _, _ => False
theorem outOk_get : ∀ {fl : List Bool} {as : List Sl} {env : Env}, OutOk fl as env → (outA fl as env).length = as.length ∧ fl.length = as.length ∧ ∀ j s, as[j]? = some s → (fl.getD j false = true ∧ (∃ o, env[j]? = some (some (.own o)) ∧ (outA fl as env)[j]? = some (.own o))) ∨ (fl.getD j false = false ∧ (∀ o, s ≠ .own o) ∧ (outA fl as env)[j]? = some s)
  | [], [], _, _ => ⟨rfl, rfl, fun j s h => by cases h⟩
  | [], _ :: _, _, h => h.elim
  | _ :: _, [], _, h => h.elim
  | _ :: _, _ :: _, [], h => h.elim
  | b :: fl, s :: as, e :: env, h => by
    obtain ⟨h1, h2⟩ := h
    obtain ⟨g1, g2, g3⟩ := outOk_get h2
    refine ⟨by simp only [outA, List.length_cons, g1], by simp only [List.length_cons, g2], fun j t hj => ?_⟩
    cases j with
    | zero =>
      cases hj
      cases b with
      | true =>
        rw [if_pos rfl] at h1
        obtain ⟨o, rfl⟩ := h1
        exact .inl ⟨rfl, o, rfl, rfl⟩
      | false =>
        rw [if_neg (by decide)] at h1
        exact .inr ⟨rfl, h1, rfl⟩
    | succ j => exact g3 j t (by simpa using hj)
def startE (N : List Str) (as : List Sl) : Env := as.map some ++ List.replicate (N.length - as.length) none
theorem map_some_get {α : Type} {l : List α} {j : Nat} {s : α} : (l.map some)[j]? = some (some s) ↔ l[j]? = some s := by
  rw [List.getElem?_map]
  cases l[j]? <;> simp
/-! ### behind a body: the arguments' state -/
def gF (K : PySem.W.Frag) (tabs : List Addr) (N : List Str) (fl : List Bool) (T : Addr → Prop) (H : Hp) (as : List Sl) (F : Nat → List Addr) (vs : List V) (xw : Xv → Env → Prop) : Gx := ⟨K, tabs, T, H, OwnP (as.map some) F, L2.start N vs, fun i => fl.getD i false, xw, fun _ => none⟩
section
variable {K : PySem.W.Frag} {tabs : List Addr} {N : List Str} {fl : List Bool} {T : Addr → Prop} {H : Hp} {as : List Sl} {F : Nat → List Addr} {vs : List V} {xw : Xv → Env → Prop}
theorem ex_none {H : Hp} : Ex (fun _ => none) H := fun _ _ h => by cases h
/-- the frame as it begins -/
theorem in_re (r : RE (gA K tabs T H as F vs) T H (vs.map some) (as.map some) F) : RE (gF K tabs N fl T H as F vs xw) T H (L2.start N vs) (startE N as) F := by
  have ha : as.length = vs.length := by have e := r.len; rwa [List.length_map, List.length_map] at e
  have sg : ∀ j t, (startE N as)[j]? = some (some t) → as[j]? = some t := fun j t h => by
    unfold startE at h
    by_cases hl : j < (as.map some).length
    · rw [List.getElem?_append_left hl] at h
      exact map_some_get.mp h
    · rw [List.getElem?_append_right (by omega), List.getElem?_replicate] at h
      split at h <;> cases h
  have so : ∀ j, IsOwn (startE N as) j → IsOwn (as.map some) j := fun j ⟨o, h⟩ => ⟨o, map_some_get.mpr (sg j _ h)⟩
  refine ⟨r.trk, r.tab, fun j t h => ?_, fun i j n h1 ⟨t, h2⟩ => r.dis i j n (so i h1) ⟨t, map_some_get.mpr (sg j t h2)⟩, .refl r.trk, fun a ⟨j, h1, h2⟩ => .inl ⟨j, so j h1, h2⟩, r.trk, fun _ _ => rfl, ?_, ex_none⟩
  · obtain ⟨v, h1, h2⟩ := r.slot j t (map_some_get.mpr (sg j t h))
    have hj : j < (vs.map some).length := (List.getElem?_eq_some_iff.mp h1).1
    refine ⟨v, ?_, h2⟩
    unfold L2.start
    rw [List.getElem?_append_left hj]
    exact h1
  · unfold startE L2.start
    rw [List.length_append, List.length_append, List.length_map, List.length_map, List.length_replicate, List.length_replicate, ha]
/-- .. as it ends -/
theorem out_re {env : Env} {σ' : L2.St} {T' : Addr → Prop} {H' : Hp} {F' : Nat → List Addr} (r : RE (gA K tabs T H as F vs) T H (vs.map some) (as.map some) F) (oo : OutOk fl as env) (r' : RE (gF K tabs N fl T H as F vs xw) T' H' σ' env F') :
    ∃ F2, RE (gA K tabs T H as F vs) T' H' (vs.map some) ((outA fl as env).map some) F2 ∧ (∀ j o, (outA fl as env)[j]? = some (.vw o) → as[j]? = some (.vw o) ∧ F2 j = F j) ∧
      ∀ s1 v fr, ResS (gF K tabs N fl T H as F vs xw) T' H' env F' s1 v fr → ResS (gA K tabs T H as F vs) T' H' ((outA fl as env).map some) F2 s1 v fr := by
  have ha : as.length = vs.length := by have e := r.len; rwa [List.length_map, List.length_map] at e
  obtain ⟨o1, o2, o3⟩ := outOk_get oo
  -- where a slot of the arguments behind comes from
  have key : ∀ j t, ((outA fl as env).map some)[j]? = some (some t) → (fl.getD j false = true ∧ ∃ o, t = .own o ∧ env[j]? = some (some (.own o))) ∨ (fl.getD j false = false ∧ as[j]? = some t ∧ ∀ o, t ≠ .own o) := fun j t h => by
    have h := map_some_get.mp h
    have hj : j < as.length := by rw [← o1]; exact (List.getElem?_eq_some_iff.mp h).1
    rcases o3 j as[j] (List.getElem?_eq_getElem hj) with ⟨b, o, e1, e2⟩ | ⟨b, n, e2⟩
    · rw [h] at e2
      cases e2
      exact .inl ⟨b, o, rfl, e1⟩
    · rw [h] at e2
      cases e2
      exact .inr ⟨b, List.getElem?_eq_getElem hj, n⟩
  have kOwn : ∀ j, IsOwn ((outA fl as env).map some) j → fl.getD j false = true ∧ IsOwn env j := fun j ⟨o, h⟩ => by
    rcases key j _ h with ⟨b, o', _, e⟩ | ⟨_, _, n⟩
    · exact ⟨b, o', e⟩
    · exact absurd rfl (n o)
  -- a view's own things are not of the frame's
  have nv : ∀ j t, as[j]? = some t → (∀ o, t ≠ .own o) → ∀ a ∈ F j, ¬ (OwnP (as.map some) F a ∨ H a = none) := fun j t hj n a ha h => by
    obtain ⟨v, _, zz⟩ := r.slot j t (map_some_get.mpr hj)
    rcases h with ⟨i, hi, hF⟩ | h
    · refine r.dis i j (fun e => ?_) hi ⟨t, map_some_get.mpr hj⟩ a hF ha
      subst e
      obtain ⟨o, ho⟩ := hi
      have ho := map_some_get.mp ho
      rw [hj] at ho
      cases ho
      exact n o rfl
    · exact r.trk a (zz.sub a ha) h
  refine ⟨fun j => if fl.getD j false = true then F' j else F j, ⟨r'.trk, r'.tab, fun j t h => ?_, fun i j n h1 ⟨t, h2⟩ a ha hb => ?_, r'.st, fun a ⟨j, h1, h2⟩ => ?_, r.trk, fun _ _ => rfl, ?_, ex_none⟩, fun j o h => ?_, fun s1 v fr z => ⟨z.rel, z.nv, fun o e i ⟨t, h⟩ a ha hF => ?_, z.from_⟩⟩
  · rcases key j t h with ⟨b, o, rfl, e⟩ | ⟨b, e, n⟩
    · obtain ⟨u, h1, h2⟩ := r'.slot j _ e
      have hj : j < as.length := by rw [← o1]; exact (List.getElem?_eq_some_iff.mp (map_some_get.mp h)).1
      refine ⟨u, ?_, by simp only [b, if_true]; exact h2⟩
      have p := r'.pin j b
      have p2 : (L2.start N vs)[j]? = (vs.map some)[j]? := by
        unfold L2.start
        rw [List.getElem?_append_left (by rw [List.length_map, ← ha]; exact hj)]
      rw [← p2]
      exact p.symm.trans h1
    · obtain ⟨u, h1, h2⟩ := r.slot j t (map_some_get.mpr e)
      refine ⟨u, h1, ?_⟩
      simp only [b, Bool.false_eq_true, if_false]
      exact h2.chg r'.st r.sub fun a ha hp => nv j t e n a ha (.inl hp)
  · obtain ⟨b, ho⟩ := kOwn i h1
    simp only [b, if_true] at ha
    rcases key j t h2 with ⟨b2, o, rfl, e⟩ | ⟨b2, e, n2⟩
    · simp only [b2, if_true] at hb
      exact r'.dis i j n ho ⟨_, e⟩ a ha hb
    · simp only [b2, Bool.false_eq_true, if_false] at hb
      exact nv j t e n2 a hb (r'.ow a ⟨i, ho, ha⟩)
  · obtain ⟨b, ho⟩ := kOwn j h1
    simp only [b, if_true] at h2
    exact r'.ow a ⟨j, ho, h2⟩
  · rw [List.length_map, List.length_map, o1, ha]
  · rcases key j _ (map_some_get.mpr h) with ⟨b, o', e, _⟩ | ⟨b, e, _⟩
    · cases e
    · exact ⟨e, by simp only [b, Bool.false_eq_true, if_false]⟩
  · rcases key i t h with ⟨b, o', rfl, e2⟩ | ⟨b, e2, n⟩
    · simp only [b, if_true] at hF
      exact z.dis o e i ⟨_, e2⟩ a ha hF
    · simp only [b, Bool.false_eq_true, if_false] at hF
      exact nv i t e2 n a hF (z.from_ o e a ha)
end
section
variable {P : Program} {w : World} {K : PySem.W.Frag} {mg : Str → Option Value} {base : Heap} {x q : Str} {st : Stmt} {N ps : List Str} {k : Nat} {tabs : List Addr} {W : WD}
theorem spW_len {as : List Sl} {vs : List V} {T : Addr → Prop} {H : Hp} {F : Nat → List Addr} (r : RE (gA K tabs T H as F vs) T H (vs.map some) (as.map some) F) : vs.length = as.length := by
  have e := r.len
  rw [List.length_map, List.length_map] at e
  exact e.symm
/-- THE RULE: a def, by its body's reading -/
theorem fx_fn {f : Addr} {fd : FuncData} (fl : List Bool) (F : Fun K x q st f fd) (S : FnScope N ps (defScope st)) (hlen : ∀ as Q, W as Q → as.length = ps.length)
    (hbody : ∀ (cdv : Value) (A : Around) (outer : List PySem.Env) (s : Shared) (H : Hp) (E : XK) (T : Addr → Prop) (P0 : Addr → Prop) (σ0 : L2.St), fd.code = cdv → Room k (A.deeper (envOfC q (defScope st) s.heap.objs.size f cdv)) →
      ∃ ws, GSs (cxOf CX0 P w K mg base N q (defScope st) f cdv A outer s H E).nox ⟨K, tabs, T, H, P0, σ0, fun i => fl.getD i false, fun _ _ => False, fun _ => none⟩ (defBody st) ws ∧
        ∀ as Q, W as Q → ws { nx := fun env => OutOk fl as env ∧ Q (.f .non) (outA fl as env), rt := fun r env => OutOk fl as env ∧ Q r (outA fl as env) } (startE N as)) : FnOk P w K mg base CX0 (k + 1) f fd ps (spW K tabs W) := by
  have lenV : ∀ vs H Q E, spW K tabs W vs H Q E → vs.length = ps.length := fun vs H Q E ⟨T, as, F, r, h⟩ => by
    rw [spW_len r]
    exact hlen as _ h
  suffices main : ∀ (cdv : Value) (A : Around) (outer : List PySem.Env) (s : Shared) (H : Hp) (vs : List V) (Q : VK) (E : XK), fd.code = cdv → Room k (A.deeper (envOfC q (defScope st) s.heap.objs.size f cdv)) → spW K tabs W vs H Q E →
      ∃ t, PSs (cxOf CX0 P w K mg base N q (defScope st) f cdv A outer s H E).nox (defBody st) t ∧ t { nx := fun _ H' => Q .non H', rt := Q } (L2.start N vs) H by
    obtain ⟨oc, od, kV, doc, pm, an, cdv, ct, osl, rfl, lk, hcd⟩ := F.ex
    refine fn_of lk hcd S lenV fun A outer s H vs Q E hr hsp => ?_
    obtain ⟨t, h, q⟩ := main cdv A outer s H vs Q E rfl hr hsp
    exact ⟨t, h.nox, q⟩
  intro cdv A outer s H vs Q E hcd hr h
  obtain ⟨T, as, F, r, hW⟩ := h
  obtain ⟨ws, hs, hq⟩ := hbody cdv A outer s H E T (OwnP (as.map some) F) (L2.start N vs) hcd hr
  refine ⟨_, hs.pss, T, startE N as, F, in_re r, ?_⟩
  let Qs : Sl → List Sl → Prop := fun r as' => ∀ v T' H' F' fr, RE (gA K tabs T H as F vs) T' H' (vs.map some) (as'.map some) F' → (∀ j o, as'[j]? = some (.vw o) → as[j]? = some (.vw o) ∧ F' j = F j) → ResS (gA K tabs T H as F vs) T' H' (as'.map some) F' r v fr → Q v H'
  refine hs.mono { nx := fun env => OutOk fl as env ∧ Qs (.f .non) (outA fl as env), rt := fun r env => OutOk fl as env ∧ Qs r (outA fl as env) } _ _ ⟨fun env ⟨oo, q⟩ σ' T' H' F' r' _ => ?_, fun s1 env ⟨oo, q⟩ v σ' T' H' F' fr r' z => ?_, fun _ h => h.elim, fun _ h => h.elim⟩ (hq as _ hW)
  · obtain ⟨F2, g1, g2, g3⟩ := out_re r oo r'
    exact q .non T' H' F2 [] g1 g2 (g3 (.f .non) .non [] ⟨⟨.non, rfl⟩, nofun, nofun, nofun⟩)
  · obtain ⟨F2, g1, g2, g3⟩ := out_re r oo r'
    exact q v T' H' F2 fr g1 g2 (g3 s1 v fr z)
end
/-! ### defs that may raise -/
section
variable {P : Program} {w : World} {K : PySem.W.Frag} {mg : Str → Option Value} {base : Heap} {x q : Str} {st : Stmt} {N ps : List Str} {k : Nat} {tabs : List Addr} {W : WDX}
end
end Fx

namespace Fx
open PySem PySem.Spec PyProof.Rows L2 Evl Lk

/-! ### a call -/
def resA : List Ag → Env → Option (List Sl)
  | [], _ => some []
  | .v (.vw _) :: _, _ => none
  | .v s :: as, e => (resA as e).map (s :: ·)
  | .slot i true :: as, e => match e[i]? with
    | some (some (.own o)) => (resA as e).map (.own o :: ·)
    | _ => none
  | .slot i false :: as, e => match e[i]? with
    | some (some (.own o)) => (resA as e).map (.vw o :: ·)
    | some (some s) => (resA as e).map (s :: ·)
    | _ => none
def slotIs (i : Nat) : Ag → Bool
  | .slot k _ => k == i
  | _ => false
def agOk : List Ag → Bool
  | [] => true
  | .slot i true :: as => !as.any (slotIs i) && agOk as
  | .slot i false :: as => !as.any (fun a => match a with | .slot k true => k == i | _ => false) && agOk as
  | _ :: as => agOk as
def idxOwn : List Ag → Nat → Option Nat
  | [], _ => none
  | .slot k true :: as, i => if k = i then some 0 else (idxOwn as i).map (· + 1)
  | _ :: as, i => (idxOwn as i).map (· + 1)
def wbGo (ags : List Ag) (as' : List Sl) : Nat → Env → Env
  | _, [] => []
  | i, s :: e => (match idxOwn ags i with | some j => as'[j]? | none => s) :: wbGo ags as' (i + 1) e
def wCall (W : WD) (wa : WA) : WE := fun env Q => wa env fun ags e => ∃ as, resA ags e = some as ∧ agOk ags = true ∧ W as fun r as' => as'.length = as.length ∧ Q r (wbGo ags as' 0 e)
def MonoD (W : WD) : Prop := ∀ as (Q Q' : Sl → List Sl → Prop), (∀ r as', Q r as' → Q' r as') → W as Q → W as Q'
theorem wbGo_len (ags : List Ag) (as' : List Sl) : ∀ (i : Nat) (e : Env), (wbGo ags as' i e).length = e.length
  | _, [] => rfl
  | i, _ :: e => by rw [wbGo, List.length_cons, wbGo_len ags as' (i + 1) e, List.length_cons]
theorem wbGo_get (ags : List Ag) (as' : List Sl) : ∀ (i : Nat) (e : Env) (k : Nat), k < e.length → (wbGo ags as' i e)[k]? = match idxOwn ags (i + k) with | some j => some as'[j]? | none => e[k]?
  | i, [], k, h => absurd h (Nat.not_lt_zero _)
  | i, s :: e, 0, h => by
    rw [wbGo]
    show some _ = _
    cases idxOwn ags i <;> rfl
  | i, s :: e, k + 1, h => by
    rw [wbGo, List.getElem?_cons_succ, wbGo_get ags as' (i + 1) e k (by simpa using h)]
    have : i + 1 + k = i + (k + 1) := by omega
    rw [this]
    cases idxOwn ags (i + (k + 1)) <;> rfl
theorem idxOwn_some : ∀ {ags : List Ag} {i j : Nat}, idxOwn ags i = some j → ags[j]? = some (.slot i true)
  | [], i, j, h => by cases h
  | .slot k true :: as, i, j, h => by
    unfold idxOwn at h
    by_cases e : k = i
    · rw [if_pos e] at h
      cases h
      subst e
      rfl
    · rw [if_neg e] at h
      cases q : idxOwn as i with
      | none => rw [q] at h; cases h
      | some m =>
        rw [q] at h
        cases h
        have z := idxOwn_some q
        simpa using z
  | .slot k false :: as, i, j, h => by
    unfold idxOwn at h
    cases q : idxOwn as i with
    | none => rw [q] at h; cases h
    | some m =>
      rw [q] at h
      cases h
      have z := idxOwn_some q
      simpa using z
  | .v s :: as, i, j, h => by
    unfold idxOwn at h
    cases q : idxOwn as i with
    | none => rw [q] at h; cases h
    | some m =>
      rw [q] at h
      cases h
      have z := idxOwn_some q
      simpa using z
theorem idxOwn_none : ∀ {ags : List Ag} {i j : Nat}, idxOwn ags i = none → ags[j]? ≠ some (.slot i true)
  | [], i, j, h => by simp
  | .slot k true :: as, i, j, h => by
    unfold idxOwn at h
    by_cases e : k = i
    · rw [if_pos e] at h
      cases h
    · rw [if_neg e] at h
      cases j with
      | zero => intro z; cases z; exact e rfl
      | succ j =>
        have z := idxOwn_none (ags := as) (i := i) (j := j) (by simpa using h)
        simpa using z
  | .slot k false :: as, i, j, h => by
    unfold idxOwn at h
    cases j with
    | zero => intro z; cases z
    | succ j =>
      have z := idxOwn_none (ags := as) (i := i) (j := j) (by simpa using h)
      simpa using z
  | .v s :: as, i, j, h => by
    unfold idxOwn at h
    cases j with
    | zero => intro z; cases z
    | succ j =>
      have z := idxOwn_none (ags := as) (i := i) (j := j) (by simpa using h)
      simpa using z
/-- an argument, resolved -/
theorem resA_get : ∀ {ags : List Ag} {e : Env} {as : List Sl}, resA ags e = some as → as.length = ags.length ∧ ∀ (j : Nat) (s : Sl), as[j]? = some s →
    (ags[j]? = some (Ag.v s) ∧ ∀ o, s ≠ .vw o) ∨ (∃ (i : Nat) (o : O), ags[j]? = some (Ag.slot i true) ∧ s = .own o ∧ e[i]? = some (some (.own o))) ∨ (∃ (i : Nat) (t : Sl), ags[j]? = some (Ag.slot i false) ∧ e[i]? = some (some t) ∧ (∀ o, s ≠ .own o) ∧ ((∃ o, t = .own o ∧ s = .vw o) ∨ t = s))
  | [], e, as, h => by
    cases h
    exact ⟨rfl, fun j s h => by cases h⟩
  | .v s :: ags, e, as, h => by
    have h : ∃ as1, resA ags e = some as1 ∧ as = s :: as1 ∧ ∀ o, s ≠ .vw o := by
      cases s with
      | vw o => cases h
      | f d =>
        unfold resA at h
        cases q : resA ags e with
        | none => rw [q] at h; cases h
        | some as1 => rw [q] at h; cases h; exact ⟨_, rfl, rfl, nofun⟩
      | own d =>
        unfold resA at h
        cases q : resA ags e with
        | none => rw [q] at h; cases h
        | some as1 => rw [q] at h; cases h; exact ⟨_, rfl, rfl, nofun⟩
    obtain ⟨as1, h1, rfl, nv⟩ := h
    obtain ⟨l, g⟩ := resA_get h1
    refine ⟨by simp only [List.length_cons, l], fun j t hj => ?_⟩
    cases j with
    | zero => cases hj; exact .inl ⟨rfl, nv⟩
    | succ j => exact g j t (by simpa using hj)
  | .slot i true :: ags, e, as, h => by
    unfold resA at h
    split at h
    · rename_i o ho
      cases q : resA ags e with
      | none => rw [q] at h; cases h
      | some as1 =>
        rw [q] at h
        cases h
        obtain ⟨l, g⟩ := resA_get q
        refine ⟨by simp only [List.length_cons, l], fun j t hj => ?_⟩
        cases j with
        | zero => cases hj; exact .inr (.inl ⟨i, o, rfl, rfl, ho⟩)
        | succ j => exact g j t (by simpa using hj)
    · cases h
  | .slot i false :: ags, e, as, h => by
    unfold resA at h
    split at h
    · rename_i o ho
      cases q : resA ags e with
      | none => rw [q] at h; cases h
      | some as1 =>
        rw [q] at h
        cases h
        obtain ⟨l, g⟩ := resA_get q
        refine ⟨by simp only [List.length_cons, l], fun j t hj => ?_⟩
        cases j with
        | zero => cases hj; exact .inr (.inr ⟨i, _, rfl, ho, nofun, .inl ⟨o, rfl, rfl⟩⟩)
        | succ j => exact g j t (by simpa using hj)
    · rename_i s hn ho
      cases q : resA ags e with
      | none => rw [q] at h; cases h
      | some as1 =>
        rw [q] at h
        cases h
        obtain ⟨l, g⟩ := resA_get q
        refine ⟨by simp only [List.length_cons, l], fun j t hj => ?_⟩
        cases j with
        | zero => cases hj; exact .inr (.inr ⟨i, _, rfl, ho, fun o e => hn o (by rw [e]), .inr rfl⟩)
        | succ j => exact g j t (by simpa using hj)
    · cases h
theorem agOk_get : ∀ {ags : List Ag}, agOk ags = true → ∀ {j k i : Nat} {b : Bool}, j ≠ k → ags[j]? = some (.slot i true) → ags[k]? = some (.slot i b) → False
  | [], _, j, k, i, b, n, h1, h2 => by cases h1
  | a :: ags, h, j, k, i, b, n, h1, h2 => by
    have hr : agOk ags = true := by
      cases a with
      | v s => exact h
      | slot m c => cases c <;> (unfold agOk at h; rw [Bool.and_eq_true] at h; exact h.2)
    cases j with
    | zero =>
      cases h1
      cases k with
      | zero => exact n rfl
      | succ k =>
        unfold agOk at h
        rw [Bool.and_eq_true] at h
        have m := List.mem_of_getElem? (show ags[k]? = some (.slot i b) from by simpa using h2)
        have q := h.1
        rw [Bool.not_eq_true'] at q
        have z : ags.any (slotIs i) = true := List.any_eq_true.mpr ⟨_, m, by simp [slotIs]⟩
        rw [q] at z
        cases z
    | succ j =>
      cases k with
      | zero =>
        cases h2
        have m := List.mem_of_getElem? (show ags[j]? = some (.slot i true) from by simpa using h1)
        cases b with
        | true =>
          unfold agOk at h
          rw [Bool.and_eq_true] at h
          have q := h.1
          rw [Bool.not_eq_true'] at q
          have z : ags.any (slotIs i) = true := List.any_eq_true.mpr ⟨_, m, by simp [slotIs]⟩
          rw [q] at z
          cases z
        | false =>
          unfold agOk at h
          rw [Bool.and_eq_true] at h
          have q := h.1
          rw [Bool.not_eq_true'] at q
          have z : ags.any (fun a => match a with | .slot k true => k == i | _ => false) = true := List.any_eq_true.mpr ⟨_, m, by simp⟩
          rw [q] at z
          cases z
      | succ k => exact agOk_get hr (fun e => n (by rw [e])) (show ags[j]? = some (.slot i true) from by simpa using h1) (show ags[k]? = some (.slot i b) from by simpa using h2)
/-- the footprints of the arguments -/
def argF (ags : List Ag) (Fa F : Nat → List Addr) (j : Nat) : List Addr := match ags[j]? with
  | some (.slot i _) => F i
  | _ => Fa j
section
variable {X : Cx} {G : Gx} {σ : L2.St} {T0 T1 : Addr → Prop} {H0 H1 : Hp} {e0 e1 : Env} {F0 F1 : Nat → List Addr} {ags : List Ag} {vs : List V} {Fa : Nat → List Addr} {as : List Sl}
theorem argF_v {j : Nat} {s : Sl} (h : ags[j]? = some (.v s)) : argF ags Fa F1 j = Fa j := by unfold argF; rw [h]
theorem argF_s {j i : Nat} {b : Bool} (h : ags[j]? = some (.slot i b)) : argF ags Fa F1 j = F1 i := by unfold argF; rw [h]
theorem call_args (r : RE G T1 H1 σ e1 F1) (z : ArgR G σ T0 H0 e0 F0 T1 H1 e1 F1 ags vs Fa) (hr : resA ags e1 = some as) (ok : agOk ags = true) :
    RE (gA G.K G.tabs T1 H1 as (argF ags Fa F1) vs) T1 H1 (vs.map some) (as.map some) (argF ags Fa F1) := by
  obtain ⟨hl, g⟩ := resA_get hr
  have sl : ∀ j s, as[j]? = some s → ∃ v, vs[j]? = some v ∧ SlR G T1 H1 s v (argF ags Fa F1 j) := fun j s hj => by
    rcases g j s hj with ⟨ha, nv⟩ | ⟨i, o, ha, rfl, he⟩ | ⟨i, t, ha, he, no, ht⟩
    · obtain ⟨v, h1, h2, _⟩ := z.val j s ha
      exact ⟨v, h1, by rw [argF_v ha]; exact h2⟩
    · obtain ⟨v, h1, h2⟩ := z.slt j i true ha
      obtain ⟨v', h3, h4⟩ := r.slot i _ he
      rw [h1] at h3
      cases h3
      exact ⟨v, h2, by rw [argF_s ha]; exact h4⟩
    · obtain ⟨v, h1, h2⟩ := z.slt j i false ha
      obtain ⟨v', h3, h4⟩ := r.slot i _ he
      rw [h1] at h3
      cases h3
      refine ⟨v, h2, ?_⟩
      rw [argF_s ha]
      rcases ht with ⟨o, rfl, rfl⟩ | rfl
      · exact h4
      · exact h4
  refine ⟨r.trk, r.tab, fun j s hj => ?_, fun j k n ⟨o, hj⟩ ⟨s, hk⟩ a ha hb => ?_, .refl r.trk, fun a h => .inl h, r.trk, fun _ _ => rfl, by rw [List.length_map, List.length_map, hl, z.len], ex_none⟩
  · obtain ⟨v, h1, h2⟩ := sl j s (map_some_get.mp hj)
    exact ⟨v, map_some_get.mpr h1, h2⟩
  · have hj := map_some_get.mp hj
    have hk := map_some_get.mp hk
    rcases g j _ hj with ⟨ga, _⟩ | ⟨i, o', ga, _, he⟩ | ⟨i, t, _, _, no, _⟩
    · rw [argF_v ga] at ha
      obtain ⟨d1, d2⟩ := z.dis j o ga
      rcases g k _ hk with ⟨gb, _⟩ | ⟨i, o', gb, _, he⟩ | ⟨i, t, gb, he, _, _⟩
      · rw [argF_v gb] at hb
        exact d2 k s (Ne.symm n) gb a ha hb
      · rw [argF_s gb] at hb
        exact d1 i ⟨_, he⟩ a ha hb
      · rw [argF_s gb] at hb
        exact d1 i ⟨_, he⟩ a ha hb
    · rw [argF_s ga] at ha
      rcases g k _ hk with ⟨gb, nv⟩ | ⟨i', o'', gb, _, he'⟩ | ⟨i', t, gb, he', _, _⟩
      · rw [argF_v gb] at hb
        cases s with
        | f d =>
          obtain ⟨v, _, q, _⟩ := z.val k _ gb
          rw [q.2] at hb
          cases hb
        | own o3 => exact (z.dis k o3 gb).1 i ⟨_, he⟩ a hb ha
        | vw o3 => exact nv o3 rfl
      · rw [argF_s gb] at hb
        by_cases e : i = i'
        · subst e; exact agOk_get ok n ga gb
        · exact r.dis i i' e ⟨_, he⟩ ⟨_, he'⟩ a ha hb
      · rw [argF_s gb] at hb
        by_cases e : i = i'
        · subst e; exact agOk_get ok n ga gb
        · exact r.dis i i' e ⟨_, he⟩ ⟨_, he'⟩ a ha hb
    · exact no o rfl
/-- what the callee may change -/
theorem call_own (z : ArgR G σ T0 H0 e0 F0 T1 H1 e1 F1 ags vs Fa) (hr : resA ags e1 = some as) {a : Addr} (h : OwnP (as.map some) (argF ags Fa F1) a) :
    (∃ (i j : Nat), ags[j]? = some (Ag.slot i true) ∧ IsOwn e1 i ∧ a ∈ F1 i) ∨ ∃ (j : Nat) (o : O), ags[j]? = some (Ag.v (.own o)) ∧ a ∈ Fa j := by
  obtain ⟨hl, g⟩ := resA_get hr
  obtain ⟨j, ⟨o, hj⟩, ha⟩ := h
  have hj := map_some_get.mp hj
  rcases g j _ hj with ⟨ga, _⟩ | ⟨i, o', ga, _, he⟩ | ⟨i, t, _, _, no, _⟩
  · rw [argF_v ga] at ha
    exact .inr ⟨j, o, ga, ha⟩
  · rw [argF_s ga] at ha
    exact .inl ⟨i, j, ga, ⟨_, he⟩, ha⟩
  · exact absurd rfl (no o)
theorem call_att {as' : List Sl} {T' : Addr → Prop} {H' : Hp} {F' : Nat → List Addr} {rs : Sl} {v : V} {fr : List Addr} (r0 : RE G T0 H0 σ e0 F0) (a1 : Att G σ T0 H0 e0 F0 T1 H1 e1 F1) (z : ArgR G σ T0 H0 e0 F0 T1 H1 e1 F1 ags vs Fa) (hr : resA ags e1 = some as) (ok : agOk ags = true)
    (hl' : as'.length = as.length) (r' : RE (gA G.K G.tabs T1 H1 as (argF ags Fa F1) vs) T' H' (vs.map some) (as'.map some) F') (hv : ∀ (j : Nat) (o : O), as'[j]? = some (.vw o) → as[j]? = some (.vw o) ∧ F' j = argF ags Fa F1 j)
    (zs : ResS (gA G.K G.tabs T1 H1 as (argF ags Fa F1) vs) T' H' (as'.map some) F' rs v fr) :
    ∃ F2, Att G σ T0 H0 e0 F0 T' H' (wbGo ags as' 0 e1) F2 ∧ Res G T0 H0 e0 F0 T' H' (wbGo ags as' 0 e1) F2 rs v fr := by
  obtain ⟨hl, g⟩ := resA_get hr
  have r1 := a1.re
  have ch : Chg T1 H1 (OwnP (as.map some) (argF ags Fa F1)) T' H' := r'.st
  have own0 : ∀ a, OwnP (as.map some) (argF ags Fa F1) a → OwnP e0 F0 a ∨ H0 a = none := fun a h => by
    rcases call_own z hr h with ⟨i, j, _, hi, ha⟩ | ⟨j, o, hj, ha⟩
    · exact a1.own a ⟨i, hi, ha⟩
    · exact z.from_ j o hj a ha
  have dom0 : ∀ a, H1 a = none → H0 a = none := fun a h => by
    cases e : H0 a with
    | none => rfl
    | some u => exact absurd h (a1.chg.dom a (by rw [e]; exact nofun))
  have subC : Sub T1 (OwnP (as.map some) (argF ags Fa F1)) := (call_args r1 z hr ok).sub
  -- what stays in the frame is not the callee's
  have K3 : ∀ i s, e1[i]? = some (some s) → idxOwn ags i = none → ∀ a ∈ F1 i, ¬ (OwnP (as.map some) (argF ags Fa F1) a ∨ H1 a = none) := fun i s hi hn a ha h => by
    rcases h with h | h
    · rcases call_own z hr h with ⟨i', j, hj, ho, ha'⟩ | ⟨j, o, hj, ha'⟩
      · have e : i' ≠ i := fun e => idxOwn_none hn (by rw [← e]; exact hj)
        exact r1.dis i' i e ho ⟨_, hi⟩ a ha' ha
      · exact (z.dis j o hj).1 i ⟨_, hi⟩ a ha' ha
    · obtain ⟨v, _, q⟩ := r1.slot i s hi
      exact r1.trk a (q.sub a ha) h
  have slot : ∀ i s, (wbGo ags as' 0 e1)[i]? = some (some s) → i < e1.length ∧ ((∃ j, idxOwn ags i = some j ∧ as'[j]? = some s) ∨ (idxOwn ags i = none ∧ e1[i]? = some (some s))) := fun i s h => by
    have hi : i < e1.length := by rw [← wbGo_len ags as' 0 e1]; exact (List.getElem?_eq_some_iff.mp h).1
    rw [wbGo_get ags as' 0 e1 i hi, Nat.zero_add] at h
    cases q : idxOwn ags i with
    | none => rw [q] at h; exact ⟨hi, .inr ⟨rfl, h⟩⟩
    | some j => rw [q] at h; exact ⟨hi, .inl ⟨j, rfl, Option.some.inj h⟩⟩
  let F2 : Nat → List Addr := fun i => match idxOwn ags i with | some j => F' j | none => F1 i
  have F2s : ∀ {i j}, idxOwn ags i = some j → F2 i = F' j := fun {i j} h => by show (match idxOwn ags i with | some j => F' j | none => F1 i) = _; rw [h]
  have F2n : ∀ {i}, idxOwn ags i = none → F2 i = F1 i := fun {i} h => by show (match idxOwn ags i with | some j => F' j | none => F1 i) = _; rw [h]
  have asOwn : ∀ {i j}, idxOwn ags i = some j → ∃ o, as[j]? = some (.own o) := fun {i j} h => by
    have ha := idxOwn_some h
    have hj : j < as.length := by rw [hl]; exact (List.getElem?_eq_some_iff.mp ha).1
    rcases g j _ (List.getElem?_eq_getElem hj) with ⟨q, _⟩ | ⟨i', o, _, e, _⟩ | ⟨i', t, q, _, _, _⟩
    · rw [ha] at q; cases q
    · exact ⟨o, by rw [List.getElem?_eq_getElem hj, e]⟩
    · rw [ha] at q; cases q
  have notvw : ∀ {i j o}, idxOwn ags i = some j → as'[j]? ≠ some (.vw o) := fun {i j o} h z2 => by
    obtain ⟨q, _⟩ := hv j o z2
    obtain ⟨o', q'⟩ := asOwn h
    rw [q] at q'
    cases q'
  have c0 : Chg T0 H0 (OwnP e0 F0) T' H' := a1.chg.trans r0.trk ch own0
  have re : RE G T' H' σ (wbGo ags as' 0 e1) F2 := by
    refine ⟨r'.trk, r'.tab, fun i s h => ?_, fun i k n ⟨o, hi⟩ ⟨s, hk⟩ a ha hb => ?_, r1.st.trans r1.t0 ch fun a h => ?_, fun a ⟨i, ⟨o, hi⟩, ha⟩ => ?_, r1.t0, r1.pin, by rw [wbGo_len]; exact r1.len, r1.hx.trans (ch.hid subC)⟩
    · obtain ⟨_, ⟨j, hj, hs⟩ | ⟨hn, hs⟩⟩ := slot i s h
      · obtain ⟨v, h1, h2⟩ := r'.slot j s (map_some_get.mpr hs)
        obtain ⟨v', h3, h4⟩ := z.slt j i true (idxOwn_some hj)
        have h1 := map_some_get.mp h1
        rw [h4] at h1
        cases h1
        exact ⟨_, h3, by rw [F2s hj]; exact h2⟩
      · obtain ⟨v, h1, h2⟩ := r1.slot i s hs
        exact ⟨v, h1, by rw [F2n hn]; exact h2.chg ch subC fun a ha hp => K3 i s hs hn a ha (.inl hp)⟩
    · obtain ⟨_, ⟨j, hj, hs⟩ | ⟨hn, hs⟩⟩ := slot i _ hi
      · rw [F2s hj] at ha
        obtain ⟨_, ⟨j', hj', hs'⟩ | ⟨hn', hs'⟩⟩ := slot k _ hk
        · rw [F2s hj'] at hb
          refine r'.dis j j' (fun e => n ?_) ⟨_, map_some_get.mpr hs⟩ ⟨_, map_some_get.mpr hs'⟩ a ha hb
          subst e
          have q := idxOwn_some hj
          rw [idxOwn_some hj'] at q
          cases q
          rfl
        · rw [F2n hn'] at hb
          exact K3 k _ hs' hn' a hb (r'.ow a ⟨j, ⟨_, map_some_get.mpr hs⟩, ha⟩)
      · rw [F2n hn] at ha
        obtain ⟨_, ⟨j', hj', hs'⟩ | ⟨hn', hs'⟩⟩ := slot k _ hk
        · rw [F2s hj'] at hb
          cases s with
          | f d =>
            obtain ⟨v, _, q⟩ := r'.slot j' _ (map_some_get.mpr hs')
            rw [q.2] at hb
            cases hb
          | own o' => exact K3 i _ hs hn a ha (r'.ow a ⟨j', ⟨_, map_some_get.mpr hs'⟩, hb⟩)
          | vw o' => exact notvw hj' hs'
        · rw [F2n hn'] at hb
          exact r1.dis i k n ⟨_, hs⟩ ⟨_, hs'⟩ a ha hb
    · rcases own0 a h with q | q
      · exact r0.ow a q
      · refine .inr ?_
        cases e : G.H0 a with
        | none => rfl
        | some u => exact absurd q (r0.st.dom a (by rw [e]; exact nofun))
    · have key : G.P0 a ∨ H1 a = none → G.P0 a ∨ G.H0 a = none := fun h => h.imp id fun q => by
        cases e : G.H0 a with
        | none => rfl
        | some u => exact absurd q (r1.st.dom a (by rw [e]; exact nofun))
      obtain ⟨_, ⟨j, hj, hs⟩ | ⟨hn, hs⟩⟩ := slot i _ hi
      · rw [F2s hj] at ha
        rcases r'.ow a ⟨j, ⟨_, map_some_get.mpr hs⟩, ha⟩ with q | q
        · rcases own0 a q with q | q
          · exact r0.ow a q
          · refine .inr ?_
            cases e : G.H0 a with
            | none => rfl
            | some u => exact absurd q (r0.st.dom a (by rw [e]; exact nofun))
        · exact key (.inr q)
      · rw [F2n hn] at ha
        exact r1.ow a ⟨i, ⟨_, hs⟩, ha⟩
  refine ⟨F2, ⟨c0, re, fun a ⟨i, ⟨o, hi⟩, ha⟩ => ?_, fun i o h => ?_⟩, ⟨zs.rel, fun o e i ⟨s, hi⟩ a ha hF => ?_, fun o e a ha => ?_⟩⟩
  · obtain ⟨_, ⟨j, hj, hs⟩ | ⟨hn, hs⟩⟩ := slot i _ hi
    · rw [F2s hj] at ha
      rcases r'.ow a ⟨j, ⟨_, map_some_get.mpr hs⟩, ha⟩ with q | q
      · exact own0 a q
      · exact .inr (dom0 a q)
    · rw [F2n hn] at ha
      exact a1.own a ⟨i, ⟨_, hs⟩, ha⟩
  · obtain ⟨_, ⟨j, hj, hs⟩ | ⟨hn, hs⟩⟩ := slot i _ h
    · exact absurd hs (notvw hj)
    · obtain ⟨h1, h2⟩ := a1.vw i o hs
      exact ⟨h1, by rw [F2n hn]; exact h2⟩
  · obtain ⟨_, ⟨j, hj, hs⟩ | ⟨hn, hs⟩⟩ := slot i _ hi
    · rw [F2s hj] at hF
      exact zs.dis o e j ⟨_, map_some_get.mpr hs⟩ a ha hF
    · rw [F2n hn] at hF
      exact K3 i _ hs hn a hF (zs.from_ o e a ha)
  · rcases zs.from_ o e a ha with q | q
    · exact own0 a q
    · exact .inr (dom0 a q)
/-- f(e, ..) -/
theorem ge_call {x : Str} {k j : Nat} {W : WD} {tabs : List Addr} {p pos : Pos} {e : Expr} {es : List Expr} {wa : WA} (c : Cal X.prog X.w X.K X.mg X.base k x (spW X.K tabs W)) (hr : Room j X.A) (hk : k ≤ j) (hg : Gl X x) (hK : X.K = G.K) (ht : tabs = G.tabs) (mw : MonoD W) (ha : GA X G (e :: es) wa)
    (hdb : (x == ("__debug__" : Str)) = false := by decide) (he : starEach (e :: es) X.env = (false, eval e X.env) :: starEach es X.env := by rfl) (hpl : (backTo pos (starEach es X.env)).any (·.1) = false := by rfl) :
    GE X G (.Call (.Name x p) (e :: es) [] pos) (wCall W wa) := by
  subst ht
  refine ⟨pe_imp (pe_c c hr hk hg ha.pa hdb he hpl) fun σ H Q ⟨T, env, F, r, q⟩ => ⟨T, env, F, r, ha.mono _ _ _ (fun ags e1 ⟨as, h1, h2, h3⟩ vs T1 H1 F1 Fa a1 z1 => ?_) q⟩, fun env Q Q' i q => ha.mono _ _ _ (fun ags e1 ⟨as, h1, h2, h3⟩ => ⟨as, h1, h2, mw _ _ _ (fun r as' ⟨l, q⟩ => ⟨l, i _ _ q⟩) h3⟩) q⟩
  show spW X.K G.tabs W (vs ++ []) H1 Q E0
  rw [List.append_nil, hK]
  refine ⟨T1, as, argF ags Fa F1, call_args a1.re z1 h1 h2, mw _ _ _ (fun rs as' ⟨hl, q⟩ v T' H' F' fr r' hv zs => ?_) h3⟩
  obtain ⟨F2, a2, z2⟩ := call_att r a1 z1 h1 h2 hl r' hv zs
  exact q v T' H' F2 fr a2 z2
end
end Fx

namespace Fx
open PySem PySem.Spec PyProof.Rows L2 Evl Lk

/-! ### an owned result let go; a slot's thing moved -/
def wFrz (w : WE) : WE := fun env Q => w env fun r e => ∃ o d, r = .own o ∧ o.cd = some d ∧ Q (.f d) e
/-- the slot's thing is taken out as a value -/
def wMove (i : Nat) : WE := fun env Q => ∃ o d, env[i]? = some (some (.own o)) ∧ o.cd = some d ∧ Q (.f d) (env.set i none)
section
variable {X : Cx} {G : Gx} {T T1 : Addr → Prop} {H H1 : Hp} {σ : L2.St} {env env1 : Env} {F F1 : Nat → List Addr} {e : Expr} {w : WE}
/-- an owned thing of values, let go -/
theorem Ow.frz {o : O} {v : V} {fp : List Addr} {d : D} (h : Ow G.K T H o v fp) (e : o.cd = some d) : Fz G.K (hid (fun a => T a ∧ a ∉ fp) H) v d := by
  have x : Ex (hid T H) (hid (fun a => T a ∧ a ∉ fp) H) := fun a u q => hid_of (hid_some q).1 fun z => (hid_some q).2 z.1
  cases h with
  | f a => cases e; exact a.ex x
  | lst a b c => cases e; exact .lst (SqL.of (hid_of b fun z => z.2 (List.mem_singleton.mpr rfl))) (c.ex x)
  | dic a b l c n =>
    rename_i os _
    have e : (O.fds os).map (D.dic _) = some d := e
    cases e2 : O.fds os with
    | none => rw [e2] at e; cases e
    | some es =>
      rw [e2] at e
      cases e
      exact .dic (.inl (hid_of b fun z => z.2 (List.mem_cons_self ..))) l ((c.fds e2).ex x)
  | ins => cases e
/-- .. while all else stays -/
theorem att_free {fr : List Addr} (r : RE G T H σ env F) (hp : ∀ a ∈ fr, G.P0 a ∨ G.H0 a = none) (n : ∀ i, IsS env i → ∀ a ∈ fr, a ∉ F i) : RE G (fun a => T a ∧ a ∉ fr) H σ env F := by
  have c : Chg T H (fun a => a ∈ fr ∧ T a) (fun a => T a ∧ a ∉ fr) H := ⟨fun _ _ h _ => h, fun a h q => ⟨h, fun z => q ⟨z, h⟩⟩, fun _ h => .inl h.1, fun a h => r.trk a h.1, fun _ h => h⟩
  exact r.chg c (fun a h => h.2) (fun a h => hp a h.1) fun i hi a ha hq => n i hi a hq.1 ha
theorem ge_frz (h : GE X G e w) : GE X G e (wFrz w) := by
  refine ⟨pe_imp h.pe fun σ H Q ⟨T, env, F, r, q⟩ => ⟨T, env, F, r, h.mono _ _ _ (fun s e ⟨o, d, hs, hd, q⟩ v T1 H1 F1 fr a z => ?_) q⟩, fun env Q Q' i q => h.mono _ _ _ (fun s e ⟨o, d, hs, hd, q⟩ => ⟨o, d, hs, hd, i _ _ q⟩) q⟩
  subst hs
  have rel : Ow G.K T1 H1 o v fr := z.rel
  have zs := resS r z nofun
  have re := att_free a.re (zs.from_ o rfl) (z.dis o rfl)
  refine q v _ H1 F1 [] ⟨⟨a.chg.keep, fun x hx n => ⟨a.chg.tk x hx n, fun hf => ?_⟩, fun x hx => a.chg.tf x hx.1, re.trk, a.chg.dom⟩, re, a.own, a.vw⟩ (res_f (rel.frz hd))
  rcases z.from_ o rfl x hf with p | p
  · exact n p
  · exact r.trk x hx p
theorem set_none_own {i j : Nat} (h : IsOwn (env.set i none) j) : j ≠ i ∧ IsOwn env j := by
  obtain ⟨o, h⟩ := h
  rcases set_get h with ⟨_, e⟩ | ⟨n, e⟩
  · cases e
  · exact ⟨n, o, e⟩
theorem set_none_s {i j : Nat} (h : IsS (env.set i none) j) : j ≠ i ∧ IsS env j := by
  obtain ⟨o, h⟩ := h
  rcases set_get h with ⟨_, e⟩ | ⟨n, e⟩
  · cases e
  · exact ⟨n, o, e⟩
theorem ge_move {i : Nat} (h : PE X e (tVar i)) : GE X G e (wMove i) := by
  refine ⟨pe_imp h fun σ H Q ⟨T, env, F, r, o, d, ho, hd, q⟩ => ?_, fun env Q Q' i ⟨o, d, ho, hd, q⟩ => ⟨o, d, ho, hd, i _ _ q⟩⟩
  obtain ⟨v, h1, h2⟩ := r.slot i _ ho
  have h2 : Ow G.K T H o v (F i) := h2
  have own : ∀ a ∈ F i, OwnP env F a := fun a ha => ⟨i, ⟨o, ho⟩, ha⟩
  have re := att_free (fr := F i) (r.drop i) (fun a ha => r.ow a (own a ha)) fun j hj a ha hb => by
    obtain ⟨n, hj⟩ := set_none_s hj
    exact r.dis i j n.symm ⟨o, ho⟩ hj a ha hb
  refine ⟨v, h1, q v _ H F [] ⟨⟨fun _ _ h _ => h, fun x hx n => ⟨hx, fun hf => n (own x hf)⟩, fun x hx => .inl hx.1, re.trk, fun _ h => h⟩, re, fun a ⟨j, hj, ha⟩ => .inl ⟨j, (set_none_own hj).2, ha⟩, fun j o h => ?_⟩ (res_f (h2.frz hd))⟩
  rcases set_get h with ⟨_, e⟩ | ⟨n, e⟩
  · cases e
  · exact ⟨e, rfl⟩
/-! ### methods of an owned list at a slot -/
theorem FzL.erase {K : PySem.W.Frag} {H : Hp} {vs : List V} {ds : List D} (h : FzL K H vs ds) (j : Nat) : FzL K H (vs.eraseIdx j) (ds.eraseIdx j) := by
  induction ds generalizing vs j with
  | nil => cases h; exact .nil
  | cons d ds ih => cases h with
    | cons a b => cases j with
      | zero => exact b
      | succ j => exact .cons a (ih b j)
/-! ### x[i] = e at a slot that owns a list -/
def gSetL (k : Nat) (wi : WE) : WG := fun d env Q => (∃ s, env[k]? = some (some (.own (.lst s)))) ∧ wi env fun r e => ∃ i j ds, r = .f (.int i) ∧ e[k]? = some (some (.own (.lst ds))) ∧ ixN ds.length i = some j ∧ Q (e.set k (some (.own (.lst (ds.set j d)))))
theorem gg_setL {o i : Expr} {k : Nat} {wi : WE} {pos : Pos} (ho : PE X o (tVar k)) (hi : GE X G i wi)
    (ha : ∀ v, assign (.Subscript o i pos) X.env v = (do
      let ov ← holding [v] (eval o X.env)
      let iv ← holding [v, ov] (eval i X.env)
      standAt pos
      holding [v, ov, iv] (setItem ov iv v)
      release [v, ov, iv] []) := by intro _; rfl) : GG X G (.Subscript o i pos) (gSetL k wi) := by
  refine ⟨⟨fun pins s σ H v u Q I rv ⟨T, env, F, d, r, fz, ⟨s0, h0⟩, q⟩ => (pg_sub ho hi.pe set_list ha).run pins s σ H v u Q I rv ?_⟩, fun d env Q Q' ii ⟨h0, q⟩ => ⟨h0, hi.mono _ _ _ (fun s e ⟨i, j, ds, h1, h2, h3, q⟩ => ⟨i, j, ds, h1, h2, h3, ii _ q⟩) q⟩, fun _ _ _ q => q⟩
  obtain ⟨p0, vs0, s1, hp0, _, _⟩ := own_lst r h0
  refine ⟨_, s1, T, env, F, r, hi.mono _ _ _ (fun s e ⟨i, j, ds, h1, h2, h3, q⟩ y T1 H1 F1 fr a z => ?_) q⟩
  subst h1
  have zr := z.rel.1
  cases zr
  obtain ⟨p, vs, s2, hp, f1, upd_⟩ := own_lst a.re h2
  rw [s1] at s2
  cases s2
  have a2 := upd_ (vs.set j v) (ds.set j d) (f1.set (Fz.att r a fz) j)
  exact ⟨p0, vs, i, j, rfl, rfl, hp, by rw [f1.length]; exact h3, q σ T1 _ F1 a2.re ((a.chg.hid r.sub).trans (a2.chg.hid a.re.sub))⟩
/-! x[i] op= e -/
end
end Fx

namespace Fx
open PySem PySem.Spec PyProof.Rows L2 Evl Lk

/-! ### comprehensions: the list that is made is owned -/
inductive Tgt where
  | name (j : Nat) | tup (js : List Nat)
def gNames : List Nat → TGs
  | [] => gNil
  | j :: js => gCons (gName j) (gNames js)
def Tgt.tg (K : PySem.W.Frag) : Tgt → TG
  | .name j => gName j
  | .tup js => gTup K js.length (gNames js)
def Tgt.js : Tgt → List Nat
  | .name j => [j]
  | .tup js => js
def Tgt.get : Tgt → D → Option (List D)
  | .name _, d => some [d]
  | .tup js, .tup ds => if ds.length = js.length then some ds else none
  | .tup _, _ => none
def setS : L2.St → List Nat → List V → L2.St
  | σ, j :: js, v :: vs => setS (σ.set j (some v)) js vs
  | σ, _, _ => σ
def setE : Env → List Nat → List D → Env
  | e, j :: js, d :: ds => setE (e.set j (some (.f d))) js ds
  | e, _, _ => e
def wipeE : Env → List Nat → Env
  | e, [] => e
  | e, v :: vs => (wipeE e vs).set v none
theorem gNames_of {σ : L2.St} {H : Hp} {R : L2.St → Hp → Prop} : ∀ {js : List Nat} {vs : List V} {σ : L2.St}, vs.length = js.length → R (setS σ js vs) H → gNames js vs σ H R
  | [], [], _, _, q => ⟨rfl, q⟩
  | [], _ :: _, _, h, _ => by cases h
  | _ :: _, [], _, h, _ => by cases h
  | j :: js, v :: vs, σ, h, q => ⟨v, vs, rfl, gNames_of (σ := σ) (js := js) (by simpa using h) q⟩
theorem setS_len : ∀ (js : List Nat) (vs : List V) (σ : L2.St), (setS σ js vs).length = σ.length
  | [], vs, σ => by cases vs <;> rfl
  | j :: js, [], σ => rfl
  | j :: js, v :: vs, σ => by rw [setS, setS_len js vs, List.length_set]
theorem setS_out : ∀ {js : List Nat} {vs : List V} {σ : L2.St} {i : Nat}, i ∉ js → (setS σ js vs)[i]? = σ[i]?
  | [], vs, σ, i, h => by cases vs <;> rfl
  | j :: js, [], σ, i, h => rfl
  | j :: js, v :: vs, σ, i, h => by
    have n : j ≠ i := fun e => h (by rw [e]; exact List.mem_cons_self ..)
    rw [setS, setS_out (fun z => h (List.mem_cons_of_mem _ z)), List.getElem?_set_ne n]
theorem wipe_get {σ : L2.St} : ∀ {vs : List Nat} {i : Nat}, (wipe σ vs)[i]? = if i ∈ vs then (if i < σ.length then some none else none) else σ[i]?
  | [], i => by simp [wipe]
  | v :: vs, i => by
    by_cases e : i = v
    · subst e
      rw [if_pos (List.mem_cons_self ..), wipe]
      by_cases hl : i < σ.length
      · rw [if_pos hl, List.getElem?_set_self (by rw [wipe_length]; exact hl)]
      · rw [if_neg hl, List.getElem?_eq_none (by rw [List.length_set, wipe_length]; omega)]
    · rw [wipe, List.getElem?_set_ne (Ne.symm e), wipe_get (vs := vs)]
      by_cases h : i ∈ vs
      · rw [if_pos h, if_pos (List.mem_cons_of_mem _ h)]
      · rw [if_neg h, if_neg (fun z => (List.mem_cons.mp z).elim e h)]
theorem wipe_eq {σ1 σ2 : L2.St} {vs : List Nat} (hl : σ1.length = σ2.length) (h : ∀ i, i ∉ vs → σ1[i]? = σ2[i]?) : wipe σ1 vs = wipe σ2 vs := by
  refine List.ext_getElem? fun i => ?_
  rw [wipe_get, wipe_get]
  by_cases hi : i ∈ vs
  · rw [if_pos hi, if_pos hi, hl]
  · rw [if_neg hi, if_neg hi, h i hi]
theorem wipeE_some {e : Env} {s : Sl} : ∀ {vs : List Nat} {i : Nat}, (wipeE e vs)[i]? = some (some s) → e[i]? = some (some s) ∧ i ∉ vs
  | [], i, h => ⟨h, by simp⟩
  | v :: vs, i, h => by
    rw [wipeE] at h
    rcases set_get h with ⟨_, e⟩ | ⟨n, h⟩
    · cases e
    · obtain ⟨h1, h2⟩ := wipeE_some h
      exact ⟨h1, fun z => (List.mem_cons.mp z).elim n h2⟩
theorem wipeE_len (e : Env) : ∀ vs : List Nat, (wipeE e vs).length = e.length
  | [] => rfl
  | v :: vs => by rw [wipeE, List.length_set, wipeE_len e vs]
section
variable {G : Gx} {T T1 : Addr → Prop} {H H1 : Hp} {σ σ' : L2.St} {env env1 e : Env} {F F1 : Nat → List Addr}
theorem RE.wipeE (r : RE G T H σ env F) (vs : List Nat) : RE G T H σ (wipeE env vs) F := by
  induction vs with
  | nil => exact r
  | cons v vs ih => exact ih.drop v
/-- other slots' values, where nothing is known -/
theorem RE.sigma (r : RE G T H σ (Fx.wipeE e vs) F) (hl : σ'.length = σ.length) (h : ∀ i, i ∉ vs → σ'[i]? = σ[i]?) (hp : ∀ i ∈ vs, G.prot i = false) : RE G T H σ' (Fx.wipeE e vs) F :=
  ⟨r.trk, r.tab, fun i s hi => by
    obtain ⟨v, h1, h2⟩ := r.slot i s hi
    exact ⟨v, by rw [h i (wipeE_some hi).2]; exact h1, h2⟩, r.dis, r.st, r.ow, r.t0, fun i hi => by
    rw [h i (fun z => by rw [hp i z] at hi; cases hi)]
    exact r.pin i hi, by rw [hl]; exact r.len, r.hx⟩
theorem RE.names {js : List Nat} (hp : ∀ i, i ∈ js → G.prot i = false) : ∀ {js' : List Nat} {ds : List D} {vs : List V} {σ : L2.St} {env : Env} {F : Nat → List Addr}, (∀ i ∈ js', i ∈ js) → RE G T H σ env F → FzL G.K (hid T H) vs ds → (∀ j ∈ js', j < σ.length) →
    ∃ F', RE G T H (setS σ js' vs) (setE env js' ds) F' ∧ ∀ k, k ∉ js' → F' k = F k
  | [], ds, vs, σ, env, F, _, r, f, _ => by
    cases vs <;> cases ds <;> exact ⟨F, r, fun _ _ => rfl⟩
  | j :: js', ds, vs, σ, env, F, sub, r, f, hl => by
    cases f with
    | nil => exact ⟨F, r, fun _ _ => rfl⟩
    | cons a b =>
      have r2 := r.store (r := .f _) j (hl j (List.mem_cons_self ..)) (hp j (sub j (List.mem_cons_self ..))) nofun (fr := []) ⟨a, rfl⟩ nofun nofun
      obtain ⟨F', r3, h3⟩ := RE.names hp (fun i hi => sub i (List.mem_cons_of_mem _ hi)) r2 b fun k hk => by rw [List.length_set]; exact hl k (List.mem_cons_of_mem _ hk)
      refine ⟨F', r3, fun k hk => ?_⟩
      rw [h3 k (fun z => hk (List.mem_cons_of_mem _ z)), upF_ne (fun z => hk (by rw [z]; exact List.mem_cons_self ..))]
theorem setE_s : ∀ {js : List Nat} {ds : List D} {env : Env} {i : Nat} {s : Sl}, (setE env js ds)[i]? = some (some s) → (i ∈ js ∧ ∃ d, s = .f d) ∨ env[i]? = some (some s)
  | [], ds, env, i, s, h => by cases ds <;> exact .inr h
  | j :: js, [], env, i, s, h => .inr h
  | j :: js, d :: ds, env, i, s, h => by
    rcases setE_s (js := js) (ds := ds) h with ⟨a, b⟩ | h
    · exact .inl ⟨List.mem_cons_of_mem _ a, b⟩
    · rcases set_get h with ⟨e, z⟩ | ⟨_, h⟩
      · cases z
        exact .inl ⟨by rw [e]; exact List.mem_cons_self .., d, rfl⟩
      · exact .inr h
end
/-- [e for t in xs if c]; vs: the comprehension's own slots -/
def wLc (wi : WI) (tg : Tgt) (vs : List Nat) (t : WT) (w : WE) : WE := fun env Q => wi env fun ds e0 => ds.length ≤ 100000 ∧ ∃ J : Nat → List D → Env → Prop, J 0 [] e0 ∧
  (∀ i d acc e, ds[i]? = some d → J i acc e → ∃ xs, tg.get d = some xs ∧ t (setE (wipeE e vs) tg.js xs) fun b e2 => if b = true then w e2 fun r e3 => ∃ d', r = .f d' ∧ J (i + 1) (acc ++ [d']) e3 else J (i + 1) acc e2) ∧
  ∀ acc e, J ds.length acc e → Q (.own (.lst acc)) (wipeE e vs)
def wYes : WT := fun env Q => Q true env
section
variable {X : Cx} {G : Gx} {elt iter : Expr} {wi : WI} {tg : Tgt} {vs : List Nat} {t : WT} {w : WE}
theorem lcW {tt : TT} (hi : MonoI wi) (hw : MonoE w) (htt : ∀ σ H Q, tWT G t σ H Q → tt σ H Q) (mt : MonoT t) (hsub : ∀ j ∈ tg.js, j ∈ vs) (hp : ∀ i ∈ vs, G.prot i = false) {σ : L2.St} (hlen : ∀ i ∈ vs, i < σ.length) {H : Hp} {Q : VK} (h : tW G (wLc wi tg vs t w) σ H Q) :
    tLc (tWI G wi) (tg.tg G.K) tt (tW G w) vs σ H Q := by
  obtain ⟨T, env, F, r, q⟩ := h
  refine ⟨T, env, F, r, hi _ _ _ (fun ds e0 ⟨hz, J, j0, js, jd⟩ It T1 H1 F1 Bs a it b0 => ?_) q⟩
  intro Dl nD
  have Hnone : H Dl = none := by
    cases e : H Dl with
    | none => rfl
    | some u => exact absurd nD (a.chg.dom Dl (by rw [e]; exact nofun))
  have G0none : G.P0 Dl ∨ G.H0 Dl = none := .inr (by
    cases e : G.H0 Dl with
    | none => rfl
    | some u => exact absurd Hnone (r.st.dom Dl (by rw [e]; exact nofun)))
  -- one state between two turns
  let S : Nat → Hp → Prop := fun i H' => ∃ T' env' F' acc vacc, Att G σ T H env F T' H' (wipeE env' vs) F' ∧ Bs T' H' ∧ T' Dl ∧ H' Dl = some (.lst vacc) ∧ FzL G.K (hid T' H') vacc acc ∧ (∀ k, IsS (wipeE env' vs) k → Dl ∉ F' k) ∧ acc.length ≤ i ∧ J i acc env'
  have start : S 0 (upd H1 Dl (.lst [])) := by
    have a1 := att_new (o := HO.lst []) a.re nD
    have re := a1.re.wipeE vs
    refine ⟨_, e0, F1, [], [], ⟨(a.trans r.trk a1).chg, re, fun x ⟨k, ⟨o, hk⟩, hx⟩ => a.own x ⟨k, ⟨o, (wipeE_some hk).1⟩, hx⟩, fun k o hk => a.vw k o (wipeE_some hk).1⟩, it.keep _ _ _ _ b0 (hid_new nD), .inr rfl, upd_same, .nil, fun k ⟨s, hk⟩ hF => ?_, Nat.le_refl _, j0⟩
    obtain ⟨v, _, z⟩ := a.re.slot k s (wipeE_some hk).1
    exact a.re.trk Dl (z.sub Dl hF) nD
  refine ⟨fun i m H' => m = ds.length - i ∧ i ≤ ds.length ∧ S i H', ⟨_, rfl, Nat.zero_le _, start⟩, ?_⟩
  rintro i m H' ⟨rfl, hi', T', env', F', acc, vacc, a', b', tD, hD, fa, nF, hacc, j'⟩
  by_cases hlt : i < ds.length
  · obtain ⟨go, yl⟩ := it.go i T' H' a'.re.trk b' hlt
    refine .inr ⟨go, S (i + 1), fun H2 s2 => ⟨ds.length - (i + 1), by omega, rfl, hlt, s2⟩, fun x H2 y => ?_⟩
    obtain ⟨d, hd, ex, fz⟩ := yl x H2 y
    obtain ⟨xs, hx, jt⟩ := js i d acc env' hd j'
    -- the target's slots
    have re2 : RE G T' H2 (wipe σ vs) (wipeE env' vs) F' := (a'.re.ex ex).sigma (wipe_length σ vs) (fun k hk => by rw [wipe_get, if_neg hk]) hp
    have lw : ∀ j ∈ tg.js, j < (wipe σ vs).length := fun j hj => by rw [wipe_length]; exact hlen j (hsub j hj)
    have go2 : ∀ R : L2.St → Hp → Prop, (∀ ws F2, RE G T' H2 (setS (wipe σ vs) tg.js ws) (setE (wipeE env' vs) tg.js xs) F2 → (∀ k, k ∉ tg.js → F2 k = F' k) → R (setS (wipe σ vs) tg.js ws) H2) → tg.tg G.K x (wipe σ vs) H2 R := by
      intro R k
      cases tg with
      | name j =>
        have hx : some [d] = some xs := hx
        cases hx
        obtain ⟨F2, r2, f2⟩ := RE.names (js := vs) hp (js' := [j]) hsub re2 (.cons fz .nil) lw
        exact k [x] F2 r2 f2
      | tup ks =>
        cases d with
        | tup ds' =>
          have hx : (if ds'.length = ks.length then some ds' else none) = some xs := hx
          by_cases hl : ds'.length = ks.length
          · rw [if_pos hl] at hx
            cases hx
            cases fz with
            | tup l fl =>
              rename_i p ws
              obtain ⟨F2, r2, f2⟩ := RE.names (js := vs) hp (js' := ks) hsub re2 fl lw
              exact ⟨_, _, rfl, ex_t hid_ex l, fl.length.trans hl, gNames_of (σ := wipe σ vs) (fl.length.trans hl) (k ws F2 r2 f2)⟩
          · rw [if_neg hl] at hx
            cases hx
        | _ => cases hx
    refine go2 _ fun ws F2 r2 f2 => ?_
    generalize hσ : setS (wipe σ vs) tg.js ws = σ2 at r2
    have sg : ∀ k, k ∉ vs → σ2[k]? = σ[k]? := fun k hk => by
      rw [← hσ, setS_out (fun z => hk (hsub k z)), wipe_get, if_neg hk]
    have ln : σ2.length = σ.length := by rw [← hσ, setS_len, wipe_length]
    refine ⟨wipe_eq ln sg, ?_⟩
    generalize henv : setE (wipeE env' vs) tg.js xs = env2 at r2 jt
    -- slots of the turn
    have sl2 : ∀ k s, env2[k]? = some (some s) → ((∃ d, s = .f d) ∧ F2 k = []) ∨ ((wipeE env' vs)[k]? = some (some s) ∧ F2 k = F' k) := fun k s h => by
      rw [← henv] at h
      rcases setE_s h with ⟨_, d, e⟩ | h'
      · subst e
        rw [henv] at h
        obtain ⟨v, _, z⟩ := r2.slot k _ h
        exact .inl ⟨⟨d, rfl⟩, z.2⟩
      · exact .inr ⟨h', f2 k fun z => (wipeE_some h').2 (hsub k z)⟩
    have own2 : ∀ a, OwnP env2 F2 a → OwnP (wipeE env' vs) F' a := fun a ⟨k, ⟨o, hk⟩, ha⟩ => by
      rcases sl2 k _ hk with ⟨⟨d, e⟩, _⟩ | ⟨h, e⟩
      · cases e
      · exact ⟨k, ⟨o, h⟩, by rw [← e]; exact ha⟩
    have n2 : ∀ k, IsS env2 k → ∀ y ∈ [Dl], y ∉ F2 k := fun k ⟨s, hk⟩ y hy hF => by
      rw [List.mem_singleton.mp hy] at hF
      rcases sl2 k s hk with ⟨_, e⟩ | ⟨h, e⟩
      · rw [e] at hF; cases hF
      · rw [e] at hF; exact nF k ⟨s, h⟩ hF
    have nP : ¬ OwnP env2 F2 Dl := fun ⟨k, ⟨o, hk⟩, hF⟩ => n2 k ⟨_, hk⟩ Dl (List.mem_singleton.mpr rfl) hF
    have step : ∀ (T4 : Addr → Prop) (H4 : Hp) (e3 : Env) (F4 : Nat → List Addr), Att G σ2 T' H2 env2 F2 T4 H4 e3 F4 → Att G σ T H env F T4 H4 (wipeE e3 vs) F4 ∧ Ex (hid T' H') (hid T4 H4) ∧ T4 Dl ∧ H4 Dl = some (.lst vacc) ∧ (∀ k, IsS (wipeE e3 vs) k → Dl ∉ F4 k) := fun T4 H4 e3 F4 a4 => by
      have out := att_out (fr := [Dl]) r2.trk a4 (fun y hy => by rw [List.mem_singleton.mp hy]; exact tD) n2
      have c1 : Chg T' H' (OwnP (wipeE env' vs) F') T' H2 := ⟨fun a o h _ => ex a o h, fun _ h _ => h, fun _ h => .inl h, r2.trk, ex_dom ex⟩
      have domN : ∀ a, H2 a = none → H a = none := fun a h => by
        cases e : H a with
        | none => rfl
        | some u =>
          have h1 := a'.chg.dom a (by rw [e]; exact nofun)
          exact absurd h (ex_dom ex a h1)
      refine ⟨⟨(a'.chg.trans r.trk c1 a'.own).trans r.trk a4.chg fun a ha => a'.own a (own2 a ha), (a4.re.wipeE vs).sigma ln.symm (fun k hk => (sg k hk).symm) hp, fun a ⟨k, ⟨o, hk⟩, ha⟩ => ?_, fun k o hk => ?_⟩, (hid_mono ex).trans (a4.chg.hid r2.sub), a4.chg.tk Dl tD nP, a4.chg.keep Dl _ (ex Dl _ hD) nP, fun k ⟨s, hk⟩ hF => out k ⟨s, (wipeE_some hk).1⟩ Dl (List.mem_singleton.mpr rfl) hF⟩
      · rcases a4.own a ⟨k, ⟨o, (wipeE_some hk).1⟩, ha⟩ with h | h
        · exact a'.own a (own2 a h)
        · exact .inr (domN a h)
      · obtain ⟨h1, h2⟩ := a4.vw k o (wipeE_some hk).1
        rcases sl2 k _ h1 with ⟨⟨d, e⟩, _⟩ | ⟨h, e⟩
        · cases e
        · obtain ⟨h3, h4⟩ := a'.vw k o h
          exact ⟨h3, (h2.trans e).trans h4⟩
    refine htt _ _ _ ⟨T', env2, F2, r2, mt _ _ _ (fun b e2 q T3 H3 F3 a3 => ?_) jt⟩
    cases b with
    | false =>
      have q : J (i + 1) acc e2 := q
      obtain ⟨s1, s2, s3, s4, s5⟩ := step T3 H3 e2 F3 a3
      exact ite_ff ⟨T3, e2, F3, acc, vacc, s1, it.keep _ _ _ _ b' s2, s3, s4, fa.ex s2, s5, Nat.le_succ_of_le hacc, q⟩
    | true =>
      refine ite_tt ⟨T3, e2, F3, a3.re, hw _ _ _ (fun s e3 ⟨d', hs, j4⟩ y T4 H4 F4 fr4 a4 z4 => ?_) q⟩
      subst hs
      obtain ⟨s1, s2, s3, s4, s5⟩ := step T4 H4 e3 F4 (a3.trans r2.trk a4)
      have c5 : Chg T4 H4 (fun a => a = Dl) T4 (upd H4 Dl (.lst (vacc ++ [y]))) := Chg.write a4.re.trk rfl
      have sub5 : Sub T4 (fun a => a = Dl) := fun a h => by rw [h]; exact s3
      have x5 := c5.hid sub5
      refine ⟨vacc, s4, Nat.lt_of_le_of_lt (Nat.le_of_eq fa.length) (Nat.lt_of_le_of_lt hacc (Nat.lt_of_lt_of_le hlt (Nat.le_trans hz (by decide)))), T4, e3, F4, acc ++ [d'], vacc ++ [y], ⟨s1.chg.trans r.trk c5 (fun a h => by rw [h]; exact .inr Hnone), s1.re.chg c5 sub5 (fun a h => by rw [h]; exact G0none) fun k hk a ha h => s5 k hk (by rw [← h]; exact ha), s1.own, s1.vw⟩, it.keep _ _ _ _ b' (s2.trans x5), s3, upd_same, ((fa.ex s2).append (.cons z4.rel.1 .nil)).ex x5, s5, by rw [List.length_append]; exact Nat.succ_le_succ hacc, j4⟩
  · have e : i = ds.length := by omega
    subst e
    refine .inl ⟨it.stop _ T' H' b' rfl, ?_⟩
    refine jd acc env' j' (.ref Dl) T' H' F' [Dl] a' ⟨.lst tD hD fa, fun o _ k hk x hx hF => ?_, fun o _ x hx => ?_⟩
    · rw [List.mem_singleton.mp hx] at hF
      exact nF k hk hF
    · rw [List.mem_singleton.mp hx]
      exact .inr Hnone
end
end Fx

namespace Fx
open PySem PySem.Spec PyProof.Rows L2 Evl Lk

/-! ### comprehensions: the rules -/
section
variable {X : Cx} {G : Gx} {e : Expr} {st : Stmt} {wi : WI} {tg : Tgt} {vs : List Nat} {t : WT} {w : WE}
theorem pe_impN {t t' : TE} (h : PE X e t) (i : ∀ σ H Q, σ.length = X.N.length → t' σ H Q → t σ H Q) : PE X e t' := ⟨fun pins s σ H Q I q => h.run pins s σ H Q I (i σ H Q I.len q)⟩
theorem ps_impN {t t' : TS} (h : PS X st t) (i : ∀ D σ H, σ.length = X.N.length → t' D σ H → t D σ H) : PS X st t' := ⟨fun pins s σ H D I q => h.run pins s σ H D I (i D σ H I.len q)⟩
theorem mono_lc (mi : MonoI wi) : MonoE (wLc wi tg vs t w) := fun env Q Q' i q => mi _ _ _ (fun ds e0 ⟨hz, J, j0, js, jd⟩ => ⟨hz, J, j0, js, fun acc e hj => i _ _ (jd acc e hj)⟩) q
theorem tt_yes {σ : L2.St} {H : Hp} {Q : Bool → Hp → Prop} (h : tWT G wYes σ H Q) : tYes σ H Q := by
  obtain ⟨T, env, F, r, q⟩ := h
  exact q T H F (.refl r)
theorem mono_yes : MonoT wYes := fun _ _ _ i q => i _ _ q
theorem ge_lc {tt : TT} (h : PE X e (tLc (tWI G wi) (tg.tg G.K) tt (tW G w) vs)) (mi : MonoI wi) (mw : MonoE w) (htt : ∀ σ H Q, tWT G t σ H Q → tt σ H Q) (mt : MonoT t) (hsub : ∀ j ∈ tg.js, j ∈ vs) (hp : ∀ i ∈ vs, G.prot i = false) (hN : ∀ i ∈ vs, i < X.N.length) : GE X G e (wLc wi tg vs t w) :=
  ⟨pe_impN h fun σ H Q hl q => lcW mi mw htt mt hsub hp (fun i hi => by rw [hl]; exact hN i hi) q, mono_lc mi⟩
theorem frzW {σ : L2.St} {H : Hp} {Q : VK} (hm : MonoE w) (h : tW G (wFrz w) σ H Q) : tW G w σ H Q := by
  obtain ⟨T, env, F, r, q⟩ := h
  refine ⟨T, env, F, r, hm _ _ _ (fun s e ⟨o, d, hs, hd, q⟩ v T1 H1 F1 fr a z => ?_) q⟩
  subst hs
  have rel : Ow G.K T1 H1 o v fr := z.rel
  have zs := resS r z nofun
  have re := att_free a.re (zs.from_ o rfl) (z.dis o rfl)
  refine q v _ H1 F1 [] ⟨⟨a.chg.keep, fun x hx n => ⟨a.chg.tk x hx n, fun hf => ?_⟩, fun x hx => a.chg.tf x hx.1, re.trk, a.chg.dom⟩, re, a.own, a.vw⟩ (res_f (rel.frz hd))
  rcases z.from_ o rfl x hf with p | p
  · exact n p
  · exact r.trk x hx p
theorem mono_frz (hm : MonoE w) : MonoE (wFrz w) := fun env Q Q' i q => hm _ _ _ (fun s e ⟨o, d, hs, hd, q⟩ => ⟨o, d, hs, hd, i _ _ q⟩) q
/-- name = [..] : owned; let go -/
theorem gs_setLc {tt : TT} {i : Nat} (h : PS X st (tAsg (tLc (tWI G wi) (tg.tg G.K) tt (tW G w) vs) (gName i))) (mi : MonoI wi) (mw : MonoE w) (htt : ∀ σ H Q, tWT G t σ H Q → tt σ H Q) (mt : MonoT t) (hsub : ∀ j ∈ tg.js, j ∈ vs) (hp : ∀ i ∈ vs, G.prot i = false) (hN : ∀ i ∈ vs, i < X.N.length) (hpi : G.prot i = false) : GS X G st (wSet i (wLc wi tg vs t w)) :=
  gs_set (ps_impN h fun D σ H hl q => lcW mi mw htt mt hsub hp (fun i hi => by rw [hl]; exact hN i hi) q) (mono_lc mi) hpi
theorem gs_setLcF {tt : TT} {i : Nat} (h : PS X st (tAsg (tLc (tWI G wi) (tg.tg G.K) tt (tW G w) vs) (gName i))) (mi : MonoI wi) (mw : MonoE w) (htt : ∀ σ H Q, tWT G t σ H Q → tt σ H Q) (mt : MonoT t) (hsub : ∀ j ∈ tg.js, j ∈ vs) (hp : ∀ i ∈ vs, G.prot i = false) (hN : ∀ i ∈ vs, i < X.N.length) (hpi : G.prot i = false) : GS X G st (wSet i (wFrz (wLc wi tg vs t w))) :=
  gs_set (ps_impN h fun D σ H hl q => lcW mi mw htt mt hsub hp (fun i hi => by rw [hl]; exact hN i hi) (frzW (mono_lc mi) q)) (mono_frz (mono_lc mi)) hpi
end

/-! ### values as the library's data -/
mutual
def D.py : D → PyData
  | .non => .none
  | .bl b => .bool b
  | .int i => .int i
  | .str x => .str x
  | .lst ds => .list (D.pyL ds)
  | .tup ds => .tuple (D.pyL ds)
  | .ty _ => .dict []
  | .dic _ _ => .dict []
def D.pyL : List D → List PyData
  | [] => []
  | d :: ds => d.py :: D.pyL ds
end
mutual
theorem dp_of {K : PySem.W.Frag} {H : Hp} : ∀ {d : D} {v : V}, Fz K H v d → d.py.canLay0 = true → Dp K H v d.py
  | .non, _, h, _ => by cases h; exact .non
  | .bl b, _, h, _ => by cases h; exact .bl b
  | .int i, _, h, _ => by cases h; exact .int i
  | .str x, _, h, _ => by cases h; exact .str x
  | .lst ds, _, h, l => by cases h with | lst a b => exact .lst a (dpL_of b (by simpa [D.py, PyData.canLay0] using l))
  | .tup ds, _, h, l => by cases h with | tup a b => exact .tup a (dpL_of b (by simpa [D.py, PyData.canLay0] using l))
  | .ty n, _, h, l => by simp [D.py, PyData.canLay0] at l
  | .dic ks ds, _, h, l => by simp [D.py, PyData.canLay0] at l
theorem dpL_of {K : PySem.W.Frag} {H : Hp} : ∀ {ds : List D} {vs : List V}, FzL K H vs ds → PyData.canLayAll0 (D.pyL ds) = true → DpAll K H vs (D.pyL ds)
  | [], _, h, _ => by cases h; exact .nil
  | d :: ds, _, h, l => by
    cases h with
    | cons a b =>
      have l' : d.py.canLay0 = true ∧ PyData.canLayAll0 (D.pyL ds) = true := by simpa [D.pyL, PyData.canLayAll0] using l
      exact .cons (dp_of a l'.1) (dpL_of b l'.2)
end
def okPy (d : D) : Bool := SeqAt.shaped d.py
theorem dp_ok {K : PySem.W.Frag} {H : Hp} {d : D} {v : V} (h : Fz K H v d) (l : okPy d = true) : Dp K H v d.py := dp_of h (SeqAt.canLay_of_shaped l)

/-! ### operations -/
section
variable {X : Cx} {G : Gx}
def dAdd : Op2
  | .int i, .int j, Q => Q (.int (i + j))
  | .str x, .str y, Q => x.length + y.length ≤ sizeLine ∧ Q (.str (x ++ y))
  | .lst a, .lst b, Q => a.length + b.length ≤ sizeLine ∧ Q (.lst (a ++ b))
  | .tup a, .tup b, Q => a.length + b.length ≤ sizeLine ∧ Q (.tup (a ++ b))
  | _, _, _ => False
/-- two lists of any kind -/
theorem cat_any {pins : List (Addr × Obj)} {s : Shared} {σ : L2.St} {H : Hp} {a b : Addr} {xs ys : List V} {Q : VK} (I : Inv X pins σ H s) (ha : SqL X.K H a xs) (hb : SqL X.K H b ys) (hz : xs.length + ys.length ≤ sizeLine)
    (q : ∀ p, H p = none → Q (.ref p) (upd H p (.lst (xs ++ ys)))) : wpAny (model X.prog X.w) X.A (binaryOp .Add (.ref a) (.ref b)) (EP X pins σ Q) X.xe s := by
  obtain ⟨its, r, ⟨o1, n1, e1, c1, d1, t1⟩, _⟩ := I.list ha
  obtain ⟨its2, r2, ⟨o2, n2, e2, c2, d2, t2⟩, _⟩ := I.list hb
  obtain ⟨cls, dd, data, sl⟩ := o1
  obtain ⟨cls2, dd2, data2, sl2⟩ := o2
  simp only at c1 t1 c2 t2
  subst c1 t1 c2 t2
  have l1 := r.length
  have l2 := r2.length
  have e : its.toArray ++ its2.toArray = (its ++ its2).toArray := by simp
  refine concat_meets ⟨_, e1, rfl⟩ ⟨_, e2, rfl⟩ noFill_list_add seq_list_add PySem.F.slot_list_add PySem.F.entry_list_add (PySem.F.args_list_add_2 _ _) (list_addW a b its.toArray its2.toArray n1 n2 dd dd2 sl sl2 (by simp; omega)) ⟨e1, e2, ?_⟩
  rw [e]
  exact ⟨.ref _, _, I.lnew (t' := s.toks) (r.append r2) (by rw [List.length_append]; omega), rfl, q _ I.fresh⟩
theorem fz_new_l {T : Addr → Prop} {H : Hp} {p : Addr} {vs : List V} {ds : List D} {K : PySem.W.Frag} (t : Trk T H) (np : H p = none) (f : FzL K (hid T H) vs ds) : Fz K (hid T (upd H p (.lst vs))) (.ref p) (.lst ds) := .lst (SqL.of (hid_of upd_same (nT t np))) (f.ex (hid_mono (Ex.new np)))
theorem fz_new_t {T : Addr → Prop} {H : Hp} {p : Addr} {vs : List V} {ds : List D} {K : PySem.W.Frag} (t : Trk T H) (np : H p = none) (f : FzL K (hid T H) vs ds) : Fz K (hid T (upd H p (.tup vs))) (.ref p) (.tup ds) := .tup (SqT.of (hid_of upd_same (nT t np))) (f.ex (hid_mono (Ex.new np)))
theorem opx_add (hK : X.K = G.K := by rfl) : OpX X G (binaryOp .Add) dAdd := by
  refine ⟨fun pins s σ H x y v u Q I rx ry ⟨T, d1, d2, t, c1, c2, q⟩ => ?_, fun a b Q Q' i q => ?_⟩
  · cases d1 with
    | int i =>
      cases d2 with
      | int j =>
        cases c1
        cases c2
        exact op_add pins s σ H _ _ v u Q I rx ry ⟨i, j, rfl, rfl, q _ H (Ex.refl H) (.int _)⟩
      | _ => exact (show False from q).elim
    | str a =>
      cases d2 with
      | str b =>
        cases c1
        cases c2
        exact op_add_str pins s σ H _ _ v u Q I rx ry ⟨a, b, rfl, rfl, q.1, q.2 _ H (Ex.refl H) (.str _)⟩
      | _ => exact (show False from q).elim
    | lst a =>
      cases d2 with
      | lst b =>
        obtain ⟨p1, vs, rfl, l1, f1⟩ := c1
        obtain ⟨p2, ws, rfl, l2, f2⟩ := c2
        cases rx
        cases ry
        refine cat_any I (by rw [hK]; exact l1) (by rw [hK]; exact l2) (by rw [f1.length, f2.length]; exact q.1) fun p np => ?_
        exact q.2 _ _ (Ex.new np) (fz_new_l t np (f1.append f2))
      | _ => exact (show False from q).elim
    | tup a =>
      cases d2 with
      | tup b =>
        cases c1 with
        | tup l1 f1 =>
          cases c2 with
          | tup l2 f2 =>
            have k1 := ex_t hid_ex l1
            have k2 := ex_t hid_ex l2
            refine op_catA pins s σ H _ _ v u Q I rx ry ⟨_, _, _, _, rfl, rfl, by rw [hK]; exact k1, by rw [hK]; exact k2, by rw [f1.length, f2.length]; exact q.1, fun e => ?_, fun n e => ?_, fun _ _ p np => ?_⟩
            · have q2 := q.2
              subst e
              cases f1
              exact q2 _ H (Ex.refl H) (.tup l2 f2)
            · have q2 := q.2
              subst e
              cases f2
              rw [List.append_nil] at q2
              exact q2 _ H (Ex.refl H) (.tup l1 f1)
            · exact q.2 _ _ (Ex.new np) (fz_new_t t np (f1.append f2))
      | _ => exact (show False from q).elim
    | _ => exact (show False from q).elim
  · cases a <;> cases b <;> first | exact i _ q | exact ⟨q.1, i _ q.2⟩ | exact q
/-- ints in, an int out -/
def dII (C : Int → Int → Prop) (g : Int → Int → Int) : Op2
  | .int i, .int j, Q => C i j ∧ Q (.int (g i j))
  | _, _, _ => False
theorem opx_ii {f : Value → Value → Sem Value} {C : Int → Int → Prop} {g : Int → Int → Int} (h : OpR X f (rI C fun i j => .int (g i j))) : OpX X G f (dII C g) := by
  refine ⟨fun pins s σ H x y v u Q I rx ry ⟨T, d1, d2, t, c1, c2, q⟩ => ?_, fun a b Q Q' i q => ?_⟩
  · cases d1 with
    | int i =>
      cases d2 with
      | int j =>
        cases c1
        cases c2
        exact h pins s σ H _ _ v u Q I rx ry ⟨i, j, rfl, rfl, q.1, q.2 _ H (Ex.refl H) (.int _)⟩
      | _ => exact (show False from q).elim
    | _ => exact (show False from q).elim
  · cases a <;> cases b <;> first | exact ⟨q.1, i _ q.2⟩ | exact q
theorem opx_ii0 {f : Value → Value → Sem Value} {g : Int → Int → Int} (h : OpR X f (rI0 fun i j => .int (g i j))) : OpX X G f (dII (fun _ _ => True) g) :=
  opx_ii fun pins s σ H x y v u Q I rx ry ⟨i, j, e1, e2, _, q⟩ => h pins s σ H x y v u Q I rx ry ⟨i, j, e1, e2, q⟩
theorem opx_sub : OpX X G (binaryOp .Sub) (dII (fun _ _ => True) fun i j => i - j) := opx_ii0 op_sub
theorem opx_mul : OpX X G (binaryOp .Mult) (dII CMulW fun i j => i * j) := opx_ii op_mulW
theorem opx_mod : OpX X G (binaryOp .Mod) (dII (fun _ j => 0 < j) fun i j => i % j) := opx_ii op_mod
theorem opx_div : OpX X G (binaryOp .FloorDiv) (dII CDivW fun i j => i / j) := opx_ii op_fdivW
theorem opx_pow : OpX X G (binaryOp .Pow) (dII CPowW fun i j => i ^ j.toNat) := opx_ii op_powW
/-- comparisons of ints, of texts -/
def dCmp (g : Int → Int → Bool) (t : List Nat → List Nat → Bool) : Op2
  | .int i, .int j, Q => Q (.bl (g i j))
  | .str x, .str y, Q => Q (.bl (t x.cps.toList y.cps.toList))
  | _, _, _ => False
theorem opx_cmp {f : Value → Value → Sem Value} {g : Int → Int → Bool} {tb : List Nat → List Nat → Bool} (h : OpR X f (rI0 fun i j => .bl (g i j))) (h2 : OpR X f (fun x y H Q => ∃ i j, x = .str i ∧ y = .str j ∧ Q (.bl (tb i.cps.toList j.cps.toList)) H)) : OpX X G f (dCmp g tb) := by
  refine ⟨fun pins s σ H x y v u Q I rx ry ⟨T, d1, d2, t, c1, c2, q⟩ => ?_, fun a b Q Q' i q => ?_⟩
  · cases d1 with
    | int i =>
      cases d2 with
      | int j =>
        cases c1
        cases c2
        exact h pins s σ H _ _ v u Q I rx ry ⟨i, j, rfl, rfl, q _ H (Ex.refl H) (.bl _)⟩
      | _ => exact (show False from q).elim
    | str i =>
      cases d2 with
      | str j =>
        cases c1
        cases c2
        exact h2 pins s σ H _ _ v u Q I rx ry ⟨i, j, rfl, rfl, q _ H (Ex.refl H) (.bl _)⟩
      | _ => exact (show False from q).elim
    | _ => exact (show False from q).elim
  · cases a <;> cases b <;> first | exact i _ q | exact q
theorem opx_lt : OpX X G (compareOp .Lt) (dCmp (fun i j => decide (i < j)) fun x y => decide (x < y)) := opx_cmp op_lt op_lt_str
theorem opx_le : OpX X G (compareOp .LtE) (dCmp (fun i j => decide (i ≤ j)) fun x y => !decide (y < x)) := opx_cmp op_le op_le_str
theorem opx_gt : OpX X G (compareOp .Gt) (dCmp (fun i j => decide (j < i)) fun x y => decide (y < x)) := opx_cmp op_gt op_gt_str
theorem opx_ge : OpX X G (compareOp .GtE) (dCmp (fun i j => decide (j ≤ i)) fun x y => !decide (x < y)) := opx_cmp op_ge op_ge_str
/-- == of any two values -/
def dEq (neg : Bool) : Op2 := fun a b Q => okPy a = true ∧ okPy b = true ∧ Q (.bl (if neg = true then !PyData.eqv a.py b.py else PyData.eqv a.py b.py))
theorem opx_eq (hu : X.A.units + 64 < cLine) (hK : X.K = G.K := by rfl) : OpX X G (compareOp .Eq) (dEq false) := by
  refine ⟨fun pins s σ H x y v u Q I rx ry ⟨T, d1, d2, t, c1, c2, q1, q2, q⟩ => ?_, fun a b Q Q' i q => ⟨q.1, q.2.1, i _ q.2.2⟩⟩
  exact op_eqD hu pins s σ H x y v u Q I rx ry ⟨_, _, hK ▸ dp_ok c1.fz q1, hK ▸ dp_ok c2.fz q2, q1, q2, q _ H (Ex.refl H) (.bl _)⟩
theorem opx_ne (hu : X.A.units + 64 < cLine) (hK : X.K = G.K := by rfl) : OpX X G (compareOp .NotEq) (dEq true) := by
  refine ⟨fun pins s σ H x y v u Q I rx ry ⟨T, d1, d2, t, c1, c2, q1, q2, q⟩ => ?_, fun a b Q Q' i q => ⟨q.1, q.2.1, i _ q.2.2⟩⟩
  exact op_neD hu pins s σ H x y v u Q I rx ry ⟨_, _, hK ▸ dp_ok c1.fz q1, hK ▸ dp_ok c2.fz q2, q1, q2, q _ H (Ex.refl H) (.bl _)⟩
/-- is None -/
def dIsN (neg : Bool) : Op2 := fun a b Q => b = .non ∧ Q (.bl (match a with | .non => !neg | _ => neg))
theorem fz_non {K : PySem.W.Frag} {T : Addr → Prop} {H : Hp} {v : V} {d : D} (h : Cz K T H v d) : decide (v = .non) = match d with | .non => true | _ => false := by
  cases d with
  | non => cases h; rfl
  | bl b => cases h; rfl
  | int b => cases h; rfl
  | str b => cases h; rfl
  | ty b => cases h <;> rfl
  | lst ds => obtain ⟨a, vs, rfl, _⟩ := h; rfl
  | dic ks ds => obtain ⟨a, vs, rfl, _⟩ := h; rfl
  | tup ds => cases h; rfl
theorem opx_isN : OpX X G (compareOp .Is) (dIsN false) := by
  refine ⟨fun pins s σ H x y v u Q I rx ry ⟨T, d1, d2, t, c1, c2, q1, q⟩ => ?_, fun a b Q Q' i q => ⟨q.1, i _ q.2⟩⟩
  subst q1
  cases c2
  refine op_isN pins s σ H _ _ v u Q I rx ry ⟨rfl, ?_⟩
  rw [fz_non c1]
  refine q _ H (Ex.refl H) ?_
  cases d1 <;> exact .bl _
theorem opx_notN : OpX X G (compareOp .IsNot) (dIsN true) := by
  refine ⟨fun pins s σ H x y v u Q I rx ry ⟨T, d1, d2, t, c1, c2, q1, q⟩ => ?_, fun a b Q Q' i q => ⟨q.1, i _ q.2⟩⟩
  subst q1
  cases c2
  refine op_notN pins s σ H _ _ v u Q I rx ry ⟨rfl, ?_⟩
  rw [fz_non c1]
  refine q _ H (Ex.refl H) ?_
  cases d1 <;> exact .bl _
/-- x in a list, a tuple, a text (one sign) -/
def dIn (neg : Bool) : Op2
  | a, .lst ds, Q => okPy a = true ∧ okPy (.lst ds) = true ∧ Q (.bl (if neg = true then !(D.pyL ds).any fun z => PyData.eqv z a.py else (D.pyL ds).any fun z => PyData.eqv z a.py))
  | a, .tup ds, Q => okPy a = true ∧ okPy (.tup ds) = true ∧ Q (.bl (if neg = true then !(D.pyL ds).any fun z => PyData.eqv z a.py else (D.pyL ds).any fun z => PyData.eqv z a.py))
  | .str x, .str z, Q => ∃ c, x = ⟨#[c]⟩ ∧ Q (.bl (if neg = true then !decide (c ∈ z.cps.toList) else decide (c ∈ z.cps.toList)))
  | _, _, _ => False
theorem dIn_mono (neg : Bool) : MonoO (dIn neg) := fun a b Q Q' i q => by
  cases b with
  | lst ds => exact ⟨q.1, q.2.1, i _ q.2.2⟩
  | tup ds => exact ⟨q.1, q.2.1, i _ q.2.2⟩
  | str z =>
    cases a with
    | str x => obtain ⟨c, e, q⟩ := q; exact ⟨c, e, i _ q⟩
    | _ => exact q
  | _ => cases a <;> exact q
theorem opx_in (hu : X.A.units + 65 < cLine) (hK : X.K = G.K := by rfl) : OpX X G (compareOp .In) (dIn false) := by
  refine ⟨fun pins s σ H x y v u Q I rx ry ⟨T, d1, d2, t, c1, c2, q⟩ => ?_, dIn_mono false⟩
  cases d2 with
  | lst ds =>
    obtain ⟨q1, q2, q⟩ := q
    exact op_inD hu pins s σ H x y v u Q I rx ry ⟨_, _, hK ▸ dp_ok c1.fz q1, (hK ▸ dp_ok c2.fz q2 : Dp X.K H y (D.lst ds).py), q1, q2, q _ H (Ex.refl H) (.bl _)⟩
  | tup ds =>
    obtain ⟨q1, q2, q⟩ := q
    exact op_inDT hu pins s σ H x y v u Q I rx ry ⟨_, _, hK ▸ dp_ok c1.fz q1, (hK ▸ dp_ok c2.fz q2 : Dp X.K H y (D.tup ds).py), q1, q2, q _ H (Ex.refl H) (.bl _)⟩
  | str z =>
    cases d1 with
    | str x1 =>
      obtain ⟨c, e, q⟩ := q
      subst e
      cases c1
      cases c2
      exact op_in_sign pins s σ H _ _ v u Q I rx ry ⟨c, z, rfl, rfl, q _ H (Ex.refl H) (.bl _)⟩
    | _ => exact (show False from q).elim
  | _ => cases d1 <;> exact (show False from q).elim
/-- x[i] -/
def dIx : Op2
  | .lst ds, .int i, Q => ∃ d, atI ds i = some d ∧ Q d
  | .tup ds, .int i, Q => ∃ d, atI ds i = some d ∧ Q d
  | .str z, .int i, Q => z.length ≤ sizeLine ∧ ∃ c, atI z.cps.toList i = some c ∧ Q (.str ⟨#[c]⟩)
  | _, _, _ => False
theorem FzL.atI {K : PySem.W.Frag} {H : Hp} {vs : List V} {ds : List D} {i : Int} {d : D} (h : FzL K H vs ds) (e : L2.atI ds i = some d) : ∃ v, L2.atI vs i = some v ∧ Fz K H v d := by
  unfold L2.atI at e ⊢
  rw [h.length]
  cases q : ixN ds.length i with
  | none => rw [q] at e; cases e
  | some j =>
    rw [q] at e
    have e : ds[j]? = some d := e
    have hj : j < vs.length := by rw [h.length]; exact (List.getElem?_eq_some_iff.mp e).1
    exact ⟨vs[j], List.getElem?_eq_getElem hj, h.get (List.getElem?_eq_getElem hj) e⟩
theorem ixx (hK : X.K = G.K := by rfl) : IxX X G dIx := by
  refine ⟨fun value slice pins s σ H x y v u Q I rx ry ⟨T, d1, d2, t, c1, c2, q⟩ hs => ?_, fun a b Q Q' i q => ?_⟩
  · cases d2 with
    | int i =>
      cases d1 with
      | lst ds =>
        obtain ⟨d, h1, q⟩ := q
        obtain ⟨a, vs, rfl, l, f⟩ := c1
        cases c2
        obtain ⟨w, e, fw⟩ := f.atI h1
        exact ix_list value slice pins s σ H _ _ v u Q I rx ry ⟨a, vs, i, w, rfl, rfl, by rw [hK]; exact l, e, q _ H (Ex.refl H) fw⟩ hs
      | tup ds =>
        obtain ⟨d, h1, q⟩ := q
        cases c1 with
        | tup l f =>
          cases c2
          obtain ⟨w, e, fw⟩ := f.atI h1
          exact ix_tup value slice pins s σ H _ _ v u Q I rx ry ⟨_, _, i, w, rfl, rfl, by rw [hK]; exact ex_t hid_ex l, e, q _ H (Ex.refl H) fw⟩ hs
      | str z =>
        obtain ⟨hz, c, h1, q⟩ := q
        cases c1
        cases c2
        exact ix_str value slice pins s σ H _ _ v u Q I rx ry ⟨z, i, c, rfl, rfl, hz, h1, q _ H (Ex.refl H) (.str _)⟩ hs
      | _ => exact (show False from q).elim
    | _ => cases d1 <;> exact (show False from q).elim
  · cases b with
    | int k =>
      cases a with
      | lst ds => obtain ⟨d, h, q⟩ := q; exact ⟨d, h, i _ q⟩
      | tup ds => obtain ⟨d, h, q⟩ := q; exact ⟨d, h, i _ q⟩
      | str z => obtain ⟨h, c, h2, q⟩ := q; exact ⟨h, c, h2, i _ q⟩
      | _ => exact q
    | _ => cases a <;> exact q
end
end Fx

namespace Fx
open PySem PySem.Spec PyProof.Rows L2 Evl Lk

/-! ### calls of built-ins -/
inductive CzL (K : PySem.W.Frag) (T : Addr → Prop) (H : Hp) : List V → List D → Prop
  | nil : CzL K T H [] []
  | cons {v : V} {vs : List V} {d : D} {ds : List D} : Cz K T H v d → CzL K T H vs ds → CzL K T H (v :: vs) (d :: ds)
abbrev OpC := List D → (D → Prop) → Prop
def MonoC (o : OpC) : Prop := ∀ a (Q Q' : D → Prop), (∀ d, Q d → Q' d) → o a Q → o a Q'
def rC (G : Gx) (o : OpC) : List V → Hp → VK → Prop := fun xs H Q => ∃ T ds, Trk T H ∧ CzL G.K T H xs ds ∧ o ds fun d => ∀ v H', Ex H H' → Fz G.K (hid T H') v d → Q v H'
structure CaX (X : Cx) (G : Gx) (f : Value) (o : OpC) : Prop where
  ok : CallR X f (rC G o)
  mono : MonoC o
def cdL : List Sl → Option (List D)
  | [] => some []
  | s :: ss => match s.cd, cdL ss with
    | some d, some ds => some (d :: ds)
    | _, _ => none
def wCB (o : OpC) (wa : WA) : WE := fun env Q => wa env fun ags e => ∃ ss ds, resA ags e = some ss ∧ cdL ss = some ds ∧ o ds fun d => Q (.f d) e
section
variable {X : Cx} {G : Gx} {e : Expr} {es : List Expr} {wa : WA} {w w1 w2 : WE}
theorem args_cz {σ : L2.St} {T0 T : Addr → Prop} {H0 H : Hp} {env0 env : Env} {F0 F : Nat → List Addr} {vs : List V} {Fa : Nat → List Addr} {ags : List Ag} {ss : List Sl} {ds : List D} (r : RE G T H σ env F) (z : ArgR G σ T0 H0 env0 F0 T H env F ags vs Fa) (h : resA ags env = some ss) (hd : cdL ss = some ds) : CzL G.K T H vs ds := by
  obtain ⟨hl, g⟩ := resA_get h
  have key : ∀ (ss : List Sl) (vs : List V) (ds : List D), vs.length = ss.length → (∀ (j : Nat) (s : Sl), ss[j]? = some s → ∃ v fr, vs[j]? = some v ∧ SlR G T H s v fr) → cdL ss = some ds → CzL G.K T H vs ds := by
    intro ss
    induction ss with
    | nil =>
      intro vs ds hl _ h
      cases h
      cases vs with
      | nil => exact .nil
      | cons _ _ => cases hl
    | cons s ss ih =>
      intro vs ds hl hv h
      cases vs with
      | nil => cases hl
      | cons v vs =>
        unfold cdL at h
        cases e1 : s.cd with
        | none => rw [e1] at h; cases h
        | some d =>
          cases e2 : cdL ss with
          | none => rw [e1, e2] at h; cases h
          | some ds' =>
            rw [e1, e2] at h
            cases h
            obtain ⟨v', fr, h1, h2⟩ := hv 0 s rfl
            cases h1
            refine .cons (h2.cz e1) (ih vs ds' (by simpa using hl) (fun j s hj => ?_) e2)
            obtain ⟨v', fr, h1, h2⟩ := hv (j + 1) s (by simpa using hj)
            exact ⟨v', fr, by simpa using h1, h2⟩
  refine key ss vs ds (by rw [z.len, hl]) (fun j s hj => ?_) hd
  rcases g j s hj with ⟨ha, _⟩ | ⟨i, o, ha, rfl, he⟩ | ⟨i, t, ha, he, _, ht⟩
  · obtain ⟨v, h1, h2, _⟩ := z.val j s ha
    exact ⟨v, _, h1, h2⟩
  · obtain ⟨v, h1, h2⟩ := z.slt j i true ha
    obtain ⟨v', h3, h4⟩ := r.slot i _ he
    rw [h1] at h3
    cases h3
    exact ⟨v, _, h2, h4⟩
  · obtain ⟨v, h1, h2⟩ := z.slt j i false ha
    obtain ⟨v', h3, h4⟩ := r.slot i _ he
    rw [h1] at h3
    cases h3
    rcases ht with ⟨o, rfl, rfl⟩ | rfl
    · exact ⟨v, _, h2, h4⟩
    · exact ⟨v, _, h2, h4⟩
theorem mono_cb {o : OpC} (ma : MonoA wa) (mo : MonoC o) : MonoE (wCB o wa) := fun env Q Q' i q => ma _ _ _ (fun ags e ⟨ss, ds, h1, h2, q⟩ => ⟨ss, ds, h1, h2, mo _ _ _ (fun d q => i _ _ q) q⟩) q
theorem ge_cb {o : OpC} (h : PE X e (tCB (rC G o) (tWA G wa))) (ma : MonoA wa) (mo : MonoC o) : GE X G e (wCB o wa) := by
  refine ⟨pe_imp h fun σ H Q ⟨T, env, F, r, q⟩ => ⟨T, env, F, r, ma _ _ _ (fun ags e ⟨ss, ds, h1, h2, q⟩ vs T1 H1 F1 Fa a z => ?_) q⟩, mono_cb ma mo⟩
  refine ⟨T1, ds, a.re.trk, args_cz a.re z h1 h2, mo _ _ _ (fun d q v H2 e2 f2 => ?_) q⟩
  exact q v T1 H2 F1 [] (a.trans r.trk (Att.ex a.re e2)) (res_f f2)
theorem cz1 {K : PySem.W.Frag} {T : Addr → Prop} {H : Hp} {vs : List V} {d : D} (h : CzL K T H vs [d]) : ∃ v, vs = [v] ∧ Cz K T H v d := by
  cases h with
  | cons a b => cases b; exact ⟨_, rfl, a⟩
theorem cz2 {K : PySem.W.Frag} {T : Addr → Prop} {H : Hp} {vs : List V} {d d2 : D} (h : CzL K T H vs [d, d2]) : ∃ v v2, vs = [v, v2] ∧ Cz K T H v d ∧ Cz K T H v2 d2 := by
  cases h with
  | cons a b => cases b with
    | cons b c => cases c; exact ⟨_, _, rfl, a, b⟩
def cLen : OpC
  | [.lst ds], Q => Q (.int ds.length)
  | [.tup ds], Q => Q (.int ds.length)
  | [.str x], Q => x.length ≤ sizeLine ∧ Q (.int x.length)
  | [.dic ks ds], Q => Q (.int ds.length)
  | _, _ => False
theorem rd_hid {T : Addr → Prop} {H : Hp} {a : Addr} {o : HO} (l : Rd (hid T H) a o) : Rd H a o := ex_rd hid_ex l
theorem cax_len (hK : X.K = G.K := by rfl) : CaX X G (.builtin "len") cLen := by
  refine ⟨fun pins s σ H xs us Q I rv ⟨T, ds, t, c, q⟩ => ?_, fun a Q Q' i q => ?_⟩
  · unfold cLen at q
    split at q
    · obtain ⟨v, rfl, cv⟩ := cz1 c
      obtain ⟨a, vs, rfl, l, f⟩ := cv
      exact call_len_seq pins s σ H _ us Q I rv ⟨a, vs, rfl, .inl (by rw [hK]; exact l), by rw [f.length]; exact q _ H (Ex.refl H) (.int _)⟩
    · obtain ⟨v, rfl, cv⟩ := cz1 c
      cases cv with
      | tup l f => exact call_len_seq pins s σ H _ us Q I rv ⟨_, _, rfl, .inr (by rw [hK]; exact ex_t hid_ex l), by rw [f.length]; exact q _ H (Ex.refl H) (.int _)⟩
    · obtain ⟨v, rfl, cv⟩ := cz1 c
      cases cv
      exact call_len_str pins s σ H _ us Q I rv ⟨_, rfl, q.1, q.2 _ H (Ex.refl H) (.int _)⟩
    · obtain ⟨v, rfl, cv⟩ := cz1 c
      obtain ⟨a, vs, rfl, l, hl, f⟩ := cv
      obtain ⟨u, rfl, ru⟩ := vals1 rv
      cases ru
      refine d_len I l fun t s' I' => ⟨.int _, H, I', ⟨t, by rw [List.length_zip, hl, Nat.min_self, f.length]⟩, q _ H (Ex.refl H) (.int _)⟩
    · exact q.elim
  · unfold cLen at q ⊢
    split at q <;> simp_all
def cMax2 : OpC
  | [.int i, .int j], Q => Q (.int (if j > i then j else i))
  | _, _ => False
def cMin2 : OpC
  | [.int i, .int j], Q => Q (.int (if j < i then j else i))
  | _, _ => False
theorem cax_max2 (hc : X.calm = true) : CaX X G (.builtin "max") cMax2 := by
  refine ⟨fun pins s σ H xs us Q I rv ⟨T, ds, t, c, q⟩ => ?_, fun a Q Q' i q => ?_⟩
  · unfold cMax2 at q
    split at q
    · obtain ⟨v, v2, rfl, c1, c2⟩ := cz2 c
      cases c1
      cases c2
      exact call_max2 hc pins s σ H _ us Q I rv ⟨_, _, rfl, q _ H (Ex.refl H) (.int _)⟩
    · exact q.elim
  · unfold cMax2 at q ⊢
    split at q <;> simp_all
theorem cax_min2 (hc : X.calm = true) : CaX X G (.builtin "min") cMin2 := by
  refine ⟨fun pins s σ H xs us Q I rv ⟨T, ds, t, c, q⟩ => ?_, fun a Q Q' i q => ?_⟩
  · unfold cMin2 at q
    split at q
    · obtain ⟨v, v2, rfl, c1, c2⟩ := cz2 c
      cases c1
      cases c2
      exact call_min2 hc pins s σ H _ us Q I rv ⟨_, _, rfl, q _ H (Ex.refl H) (.int _)⟩
    · exact q.elim
  · unfold cMin2 at q ⊢
    split at q <;> simp_all
def cInt : OpC
  | [.int i], Q => Q (.int i)
  | [.bl b], Q => Q (.int (if b then 1 else 0))
  | [.str x], Q => x.length ≤ 640 ∧ ∃ n, PySem.intText? x = some n ∧ Q (.int n)
  | _, _ => False
theorem cax_int : CaX X G (.type "int") cInt := by
  refine ⟨fun pins s σ H xs us Q I rv ⟨T, ds, t, c, q⟩ => ?_, fun a Q Q' i q => ?_⟩
  · unfold cInt at q
    split at q
    · obtain ⟨v, rfl, cv⟩ := cz1 c
      cases cv
      exact call_int1 pins s σ H _ us Q I rv (.inl ⟨_, rfl, q _ H (Ex.refl H) (.int _)⟩)
    · obtain ⟨v, rfl, cv⟩ := cz1 c
      cases cv
      exact call_int1 pins s σ H _ us Q I rv (.inr ⟨_, rfl, q _ H (Ex.refl H) (.int _)⟩)
    · obtain ⟨v, rfl, cv⟩ := cz1 c
      cases cv
      obtain ⟨h, n, hn, q⟩ := q
      exact call_int_str pins s σ H _ us Q I rv ⟨_, n, rfl, hn, h, q _ H (Ex.refl H) (.int _)⟩
    · exact q.elim
  · unfold cInt at q ⊢
    split at q
    · exact i _ q
    · exact i _ q
    · obtain ⟨h, n, hn, q⟩ := q
      exact ⟨h, n, hn, i _ q⟩
    · exact q.elim
def cList : OpC
  | [.lst ds], Q => Q (.lst ds)
  | [.tup ds], Q => Q (.lst ds)
  | _, _ => False
theorem cax_list (hK : X.K = G.K := by rfl) : CaX X G (.type "list") cList := by
  refine ⟨fun pins s σ H xs us Q I rv ⟨T, ds, t, c, q⟩ => ?_, fun a Q Q' i q => ?_⟩
  · unfold cList at q
    split at q
    · obtain ⟨v, rfl, cv⟩ := cz1 c
      obtain ⟨a, vs, rfl, l, f⟩ := cv
      exact call_list_of pins s σ H _ us Q I rv ⟨a, vs, rfl, .inl (by rw [hK]; exact l), fun p np => q _ _ (Ex.new np) (fz_new_l t np f)⟩
    · obtain ⟨v, rfl, cv⟩ := cz1 c
      cases cv with
      | tup l f => exact call_list_of pins s σ H _ us Q I rv ⟨_, _, rfl, .inr (by rw [hK]; exact ex_t hid_ex l), fun p np => q _ _ (Ex.new np) (fz_new_l t np f)⟩
    · exact q.elim
  · unfold cList at q ⊢
    split at q <;> simp_all
def cTuple : OpC
  | [.lst ds], Q => Q (.tup ds)
  | [.tup ds], Q => Q (.tup ds)
  | _, _ => False
theorem cax_tuple (hK : X.K = G.K := by rfl) : CaX X G (.type "tuple") cTuple := by
  refine ⟨fun pins s σ H xs us Q I rv ⟨T, ds, t, c, q⟩ => ?_, fun a Q Q' i q => ?_⟩
  · unfold cTuple at q
    split at q
    · obtain ⟨v, rfl, cv⟩ := cz1 c
      obtain ⟨a, vs, rfl, l, f⟩ := cv
      exact call_tuple_of pins s σ H _ us Q I rv ⟨a, vs, rfl, .inl ⟨by rw [hK]; exact l, fun p np => q _ _ (Ex.new np) (fz_new_t t np f)⟩⟩
    · obtain ⟨v, rfl, cv⟩ := cz1 c
      cases cv with
      | tup l f => exact call_tuple_of pins s σ H _ us Q I rv ⟨_, _, rfl, .inr ⟨by rw [hK]; exact ex_t hid_ex l, q _ H (Ex.refl H) (.tup l f)⟩⟩
    · exact q.elim
  · unfold cTuple at q ⊢
    split at q <;> simp_all
/-! isinstance -/
def tyN : D → String
  | .non => "NoneType"
  | .bl _ => "bool"
  | .int _ => "int"
  | .str _ => "str"
  | .lst _ => "list"
  | .tup _ => "tuple"
  | .dic _ _ => "dict"
  | .ty _ => ""
theorem kitD {pins : List (Addr × Obj)} {σ : L2.St} {H : Hp} {s : Shared} {x : V} {u : Value} {d : D} (I : Inv X pins σ H s) (h : Fz X.K H x d) (r : RelV x u) (n : ∀ m, d ≠ .ty m) :
    ∃ P : Heap → Prop, PySem.W.KitX X.K u (.type (tyN d)) P ∧ P s.heap ∧ (∀ (Pt : Addr) (h2 : Heap), (∃ ob, s.heap.get? Pt = some ob ∧ ob.cls = .none) → (∀ b o, b ≠ Pt → s.heap.get? b = some o → h2.get? b = some o) → P h2) ∧ u ≠ .builtin "__main__.__loader__#opaque" := by
  have at_ : ∀ (a : Addr) (T : String), PySem.W.KitAt a T s.heap → ∀ (Pt : Addr) (h2 : Heap), (∃ ob, s.heap.get? Pt = some ob ∧ ob.cls = .none) → (∀ b o, b ≠ Pt → s.heap.get? b = some o → h2.get? b = some o) → PySem.W.KitAt a T h2 := fun a T ⟨o, h1, h2⟩ Pt hp ⟨ob, g1, g2⟩ k => by
    refine ⟨o, k a o (fun e => ?_) h1, h2⟩
    rw [e, g1] at h1
    cases h1
    rw [g2] at h2
    cases h2
  cases h with
  | non => cases r; exact ⟨_, PySem.W.kitx_none, True.intro, fun _ _ _ _ => True.intro, fun z => nomatch z⟩
  | bl b => cases r; exact ⟨_, PySem.W.kitx_bool, True.intro, fun _ _ _ _ => True.intro, fun z => nomatch z⟩
  | int i => obtain ⟨t, rfl⟩ := _root_.id r; exact ⟨_, PySem.W.kitx_int, True.intro, fun _ _ _ _ => True.intro, fun z => nomatch z⟩
  | str y => obtain ⟨t, rfl⟩ := _root_.id r; exact ⟨_, PySem.W.kitx_str, True.intro, fun _ _ _ _ => True.intro, fun z => nomatch z⟩
  | ty m => exact absurd rfl (n m)
  | cls C => exact absurd rfl (n (.cls C))
  | exc a b => exact absurd rfl (n (.exc _ _))
  | lst l f =>
    cases r
    obtain ⟨its, rv, ⟨o, k, h1, h2, _⟩, _⟩ := I.list l
    exact ⟨_, PySem.W.kitx_list, ⟨o, h1, h2⟩, at_ _ _ ⟨o, h1, h2⟩, fun z => nomatch z⟩
  | tup l f =>
    cases r
    obtain ⟨its, rv, ⟨o, h1, h2, _⟩, _⟩ := I.tuple l
    exact ⟨_, PySem.W.kitx_tuple, ⟨o, h1, h2⟩, at_ _ _ ⟨o, h1, h2⟩, fun z => nomatch z⟩
  | dic l e f =>
    cases r
    obtain ⟨_, _, vs, _, o, es, ep, h1, h2, _⟩ := l.ok I.hok
    exact ⟨_, PySem.W.kitx_dict, ⟨o, h1, h2.1⟩, at_ _ _ ⟨o, h1, h2.1⟩, fun z => nomatch z⟩
def isiB (d : D) (n : String) : Option Bool := match d with
  | .ty _ => none
  | d => kitB (tyN d) n
def cIsi : OpC
  | [d, .ty (.bt n)], Q => ∃ b, isiB d n = some b ∧ Q (.bl b)
  | _, _ => False
theorem isiB_ty {d : D} {n : String} {b : Bool} (h : isiB d n = some b) : (∀ m, d ≠ .ty m) ∧ kitB (tyN d) n = some b := by
  cases d <;> first | exact ⟨nofun, h⟩ | cases h
theorem cax_isi (hK : X.K = G.K := by rfl) : CaX X G (.builtin "isinstance") cIsi := by
  refine ⟨fun pins s σ H xs us Q I rv ⟨T, ds, t, c, q⟩ => ?_, fun a Q Q' i q => ?_⟩
  · unfold cIsi at q
    split at q
    · obtain ⟨v, v2, rfl, c1, c2⟩ := cz2 c
      obtain ⟨b, hb, q⟩ := q
      obtain ⟨n, hk⟩ := isiB_ty hb
      cases c2
      obtain ⟨u1, u2, rfl, r1, r2⟩ := vals2 rv
      cases (show u2 = Value.type _ from r2)
      obtain ⟨P, Z, p, _, hx⟩ := kitD I (by rw [hK]; exact c1.fz) r1 n
      exact PySem.W.kia_one Z I.kIn p (kit_ty hk) hx fun tk => ⟨.bl b, H, I.tok tk, rfl, q _ H (Ex.refl H) (.bl b)⟩
    · exact q.elim
  · unfold cIsi at q ⊢
    split at q
    · obtain ⟨b, hb, q⟩ := q
      exact ⟨b, hb, i _ q⟩
    · exact q.elim
/-! ### methods of texts -/
def wJoin (w1 w2 : WE) : WE := fun env Q => w1 env fun r1 e1 => ∃ a, r1 = .f (.str a) ∧ w2 e1 fun r2 e2 => ∃ ds ys, (r2.cd = some (.lst ds) ∨ r2.cd = some (.tup ds)) ∧ ds = ys.map D.str ∧ (ys.map (·.length)).sum + ys.length * a.length ≤ 16777216 ∧ Q (.f (.str (Txt.join a ys))) e2
theorem fz_strs {K : PySem.W.Frag} {H : Hp} : ∀ {ys : List Str} {vs : List V}, FzL K H vs (ys.map D.str) → vs = ys.map V.str
  | [], _, h => by cases h; rfl
  | y :: ys, _, h => by
    cases h with
    | cons a b =>
      cases a
      rw [fz_strs b] <;> rfl
theorem ge_join {o : Expr} {apos pos : Pos} (ho : GE X G o w1) (he : GE X G e w2) (hK : X.K = G.K := by rfl) (hs : starEach [e] X.env = [(false, eval e X.env)] := by rfl) (hbase : attributeBase o "join" X.env (eval o X.env) = eval o X.env := by rfl) (hline : (apos.endLine == pos.line) = true := by rfl) :
    GE X G (.Call (.Attribute o "join" apos) [e] [] pos) (wJoin w1 w2) := by
  refine ⟨pe_imp (pe_join ho.pe he.pe hs hbase hline) fun σ H Q ⟨T, env, F, r, q⟩ => ⟨T, env, F, r, ho.mono _ _ _ (fun s e ⟨a, hs, q⟩ x T1 H1 F1 f1 a1 z1 => ?_) q⟩, fun env Q Q' i q => ho.mono _ _ _ (fun s e ⟨a, hs, q⟩ => ⟨a, hs, he.mono _ _ _ (fun s2 e2 ⟨ds, ys, h1, h2, h3, q⟩ => ⟨ds, ys, h1, h2, h3, i _ _ q⟩) q⟩) q⟩
  subst hs
  have zr := z1.rel.1
  cases zr
  refine ⟨⟨a, rfl⟩, T1, e, F1, a1.re, he.mono _ _ _ (fun s2 e2 ⟨ds, ys, h1, h2, h3, q⟩ y T2 H2 F2 f2 a2 z2 => ?_) q⟩
  subst h2
  have fin := q (.str (Txt.join a ys)) T2 H2 F2 [] (a1.trans r.trk a2) (res_f (.str _))
  rcases h1 with h1 | h1
  · obtain ⟨p, vs, rfl, l, f⟩ := z2.rel.cz h1
    rw [fz_strs f] at l
    exact ⟨a, p, ys, rfl, rfl, .inl (by rw [hK]; exact l), h3, fin⟩
  · have c := z2.rel.cz h1
    have c : Fz G.K (hid T2 H2) y (.tup _) := c
    cases c with
    | tup l f =>
      rw [fz_strs f] at l
      exact ⟨a, _, ys, rfl, rfl, .inr (by rw [hK]; exact ex_t hid_ex l), h3, fin⟩
/-! ### slices -/
abbrev WO := Env → (Option Int → Env → Prop) → Prop
def MonoOp (w : WO) : Prop := ∀ env (Q Q' : Option Int → Env → Prop), (∀ r e, Q r e → Q' r e) → w env Q → w env Q'
def tWO (G : Gx) (w : WO) : TO := fun σ H Q => ∃ T env F, RE G T H σ env F ∧ w env fun i env' => ∀ T' H' F', Att G σ T H env F T' H' env' F' → Q i H'
structure GO (X : Cx) (G : Gx) (e : Option Expr) (w : WO) : Prop where
  po : PO X e (tWO G w)
  mono : MonoOp w
theorem po_imp {e : Option Expr} {t t' : TO} (h : PO X e t) (i : ∀ σ H Q, t' σ H Q → t σ H Q) : PO X e t' := ⟨fun pins s σ H Q I q => h.run pins s σ H Q I (i σ H Q q)⟩
def woN : WO := fun env Q => Q none env
def woS (w : WE) : WO := fun env Q => w env fun r e => ∃ i, r = .f (.int i) ∧ Q (some i) e
theorem go_none : GO X G none woN := ⟨po_imp po_none fun σ H Q ⟨T, env, F, r, q⟩ => q T H F (.refl r), fun env Q Q' i q => i _ _ q⟩
theorem go_some (h : GE X G e w) : GO X G (some e) (woS w) := by
  refine ⟨po_imp (po_some h.pe) fun σ H Q ⟨T, env, F, r, q⟩ => ⟨T, env, F, r, h.mono _ _ _ (fun s e ⟨i, hs, q⟩ x T1 H1 F1 f1 a1 z1 => ?_) q⟩, fun env Q Q' ii q => h.mono _ _ _ (fun s e ⟨i, hs, q⟩ => ⟨i, hs, ii _ _ q⟩) q⟩
  subst hs
  have zr := z1.rel.1
  cases zr
  exact ⟨i, rfl, q T1 H1 F1 a1⟩
def cutD (xs : List D) (lo hi : Option Int) : List D := (xs.drop (HT.sIx xs.length 0 lo)).take (HT.sIx xs.length xs.length hi - HT.sIx xs.length 0 lo)
def dSl : D → Option Int → Option Int → (D → Prop) → Prop
  | .lst ds, lo, hi, Q => Q (.lst (cutD ds lo hi))
  | .tup ds, lo, hi, Q => Q (.tup (cutD ds lo hi))
  | .str z, lo, hi, Q => z.length ≤ sizeLine ∧ Q (.str (cutS z lo hi))
  | _, _, _, _ => False
def rSl (G : Gx) : V → Option Int → Option Int → Hp → VK → Prop := fun x lo hi H Q => ∃ T d, Trk T H ∧ Cz G.K T H x d ∧ dSl d lo hi fun d => ∀ v H', Ex H H' → Fz G.K (hid T H') v d → Q v H'
theorem FzL.cut {K : PySem.W.Frag} {H : Hp} {vs : List V} {ds : List D} (h : FzL K H vs ds) (lo hi : Option Int) : FzL K H (cutV vs lo hi) (cutD ds lo hi) := by
  unfold cutV cutD
  rw [h.length]
  exact (h.drop _).take _
theorem cutD_whole {ds : List D} {lo hi : Option Int} (h : HT.sIx ds.length 0 lo = 0 ∧ HT.sIx ds.length ds.length hi = ds.length) : cutD ds lo hi = ds := by
  unfold cutD
  rw [h.1, h.2]
  simp
theorem slx (hK : X.K = G.K := by rfl) : L2.SlR X (rSl G) := by
  intro pins s σ H x v vl vu lo hi sl Q I rx hs pl pu ⟨T, d, t, c, q⟩
  cases d with
  | lst ds =>
    obtain ⟨a, vs, rfl, l, f⟩ := c
    exact sl_list pins s σ H _ v vl vu lo hi sl Q I rx hs pl pu ⟨a, vs, rfl, by rw [hK]; exact l, fun p np => q _ _ (Ex.new np) (fz_new_l t np (f.cut lo hi))⟩
  | tup ds =>
    cases c with
    | tup l f =>
      have k := ex_t (K := G.K) hid_ex l
      refine sl_tupA pins s σ H _ v vl vu lo hi sl Q I rx hs pl pu ⟨_, _, rfl, by rw [hK]; exact k, fun h => ?_, fun _ p np => q _ _ (Ex.new np) (fz_new_t t np (f.cut lo hi))⟩
      rw [f.length] at h
      refine q _ H (Ex.refl H) ?_
      rw [cutD_whole h]
      exact .tup l f
  | str z =>
    cases c
    exact sl_str pins s σ H _ v vl vu lo hi sl Q I rx hs pl pu ⟨z, rfl, q.1, q.2 _ H (Ex.refl H) (.str _)⟩
  | _ => exact (show False from q).elim
theorem dSl_mono {d : D} {lo hi : Option Int} {Q Q' : D → Prop} (i : ∀ d, Q d → Q' d) (q : dSl d lo hi Q) : dSl d lo hi Q' := by
  cases d <;> first | exact i _ q | exact ⟨q.1, i _ q.2⟩ | exact q
/-- x[lo:hi]: a value; or the thing at a slot -/
def wSl (w : WE) (lo hi : WO) : WE := fun env Q => w env fun r e => ∃ d, r = .f d ∧ lo e fun l e2 => hi e2 fun u e3 => dSl d l u fun d => Q (.f d) e3
theorem ge_sl {lo hi : Option Expr} {wl wh : WO} {pos p2 : Pos} (he : GE X G e w) (hl : GO X G lo wl) (hu : GO X G hi wh) (hK : X.K = G.K := by rfl) : GE X G (.Subscript e (.Slice lo hi none p2) pos) (wSl w wl wh) := by
  refine ⟨pe_imp (pe_slice (slx hK) he.pe hl.po hu.po) fun σ H Q ⟨T, env, F, r, q⟩ => ⟨T, env, F, r, he.mono _ _ _ (fun s e ⟨d, hs, q⟩ x T1 H1 F1 f1 a1 z1 => ?_) q⟩, fun env Q Q' i q => he.mono _ _ _ (fun s e ⟨d, hs, q⟩ => ⟨d, hs, hl.mono _ _ _ (fun l e2 q => hu.mono _ _ _ (fun u e3 q => dSl_mono (fun d q => i _ _ q) q) q) q⟩) q⟩
  subst hs
  refine ⟨T1, e, F1, a1.re, hl.mono _ _ _ (fun l e2 q T2 H2 F2 a2 => ⟨T2, e2, F2, a2.re, hu.mono _ _ _ (fun u e3 q T3 H3 F3 a3 => ?_) q⟩) q⟩
  refine ⟨T3, d, a3.re.trk, Cz.of (Fz.att a2.re a3 (Fz.att a1.re a2 z1.rel.1)), dSl_mono (fun d q v H4 e4 f4 => ?_) q⟩
  exact q v T3 H4 F3 [] (((a1.trans r.trk a2).trans r.trk a3).trans r.trk (Att.ex a3.re e4)) (res_f f4)
/-! ### all(..) over the signs of a text, over the items of a tuple -/
def nmB (lo hi : Str) (a : Str) : Bool := (List.range a.cps.size).all (GxR.trF (btw lo hi) a.cps.toList)
def isStr : D → Bool
  | .str _ => true
  | _ => false
end
end Fx

namespace Fx
open PySem PySem.Spec PyProof.Rows L2 Evl Lk

/-! ### not in -/
theorem op_ninT {X : Cx} (hu : X.A.units + 65 < cLine) : OpR X (compareOp .NotIn) (fun x y H Q => ∃ d ds, Dp X.K H x d ∧ Dp X.K H y (.tuple ds) ∧ SeqAt.shaped d = true ∧ SeqAt.shaped (.tuple ds) = true ∧ Q (.bl (!ds.any fun z => PyData.eqv z d)) H) := by
  intro pins s σ H x y v u Q I rx ry h
  obtain ⟨d, ds, hd, he, sd, se, q⟩ := h
  obtain ⟨as, r1⟩ := Dp.reads I d x v hd rx
  obtain ⟨bs, r2⟩ := Dp.reads I (.tuple ds) y u he ry
  exact SeqAt.notIn_tuple_reads r2 r1 (SeqAt.canLay_of_shaped se) (SeqAt.canLay_of_shaped sd) (room_in_shaped sd hu) ⟨.bl _, H, I, rfl, q⟩
section
variable {X : Cx} {G : Gx}
theorem opx_nin (hu : X.A.units + 65 < cLine) (hK : X.K = G.K := by rfl) : OpX X G (compareOp .NotIn) (dIn true) := by
  refine ⟨fun pins s σ H x y v u Q I rx ry ⟨T, d1, d2, t, c1, c2, q⟩ => ?_, dIn_mono true⟩
  cases d2 with
  | lst ds =>
    obtain ⟨q1, q2, q⟩ := q
    exact op_notInD hu pins s σ H x y v u Q I rx ry ⟨_, _, hK ▸ dp_ok c1.fz q1, (hK ▸ dp_ok c2.fz q2 : Dp X.K H y (D.lst ds).py), q1, q2, q _ H (Ex.refl H) (.bl _)⟩
  | tup ds =>
    obtain ⟨q1, q2, q⟩ := q
    exact op_ninT hu pins s σ H x y v u Q I rx ry ⟨_, _, hK ▸ dp_ok c1.fz q1, (hK ▸ dp_ok c2.fz q2 : Dp X.K H y (D.tup ds).py), q1, q2, q _ H (Ex.refl H) (.bl _)⟩
  | str z =>
    cases d1 with
    | str x1 =>
      obtain ⟨c, e, q⟩ := q
      subst e
      cases c1
      cases c2
      exact op_notIn_sign pins s σ H _ _ v u Q I rx ry ⟨c, z, rfl, rfl, q _ H (Ex.refl H) (.bl _)⟩
    | _ => exact (show False from q).elim
  | _ => cases d1 <;> exact (show False from q).elim

/-! ### a call by keywords -/
variable {e : Expr} {w w1 w2 : WE} {wr wa : WA} {es : List Expr}
/-! ### {} -/
theorem ge_dnew {pos : Pos} : GE X G (.Dict [] [] pos) (fun env Q => Q (.f (.dic [] [])) env) := by
  refine ⟨pe_imp pe_dnewK fun σ H Q ⟨T, env, F, r, q⟩ p np => ?_, fun env Q Q' i q => i _ _ q⟩
  exact q (.ref p) T _ F [] (Att.ex r (Ex.new np)) (res_f (.dic (ks := []) (vs := []) (Rd.of (hid_of upd_same (nT r.trk np))) rfl .nil))

/-! ### all, any of a list of truths -/
def cAll : OpC
  | [.lst ds], Q => ∃ bs : List Bool, ds = bs.map D.bl ∧ Q (.bl (bs.all id))
  | _, _ => False
def cAny : OpC
  | [.lst ds], Q => ∃ bs : List Bool, ds = bs.map D.bl ∧ Q (.bl (bs.any id))
  | _, _ => False
theorem fz_bls {K : PySem.W.Frag} {H : Hp} : ∀ {ys : List Bool} {vs : List V}, FzL K H vs (ys.map D.bl) → vs = ys.map V.bl
  | [], _, h => by cases h; rfl
  | y :: ys, _, h => by
    cases h with
    | cons a b =>
      cases a
      rw [fz_bls b] <;> rfl
theorem cax_all (hc : X.calm = true) (hK : X.K = G.K := by rfl) : CaX X G (.builtin "all") cAll := by
  refine ⟨fun pins s σ H xs us Q I rv ⟨T, ds, t, c, q⟩ => ?_, fun a Q Q' i q => ?_⟩
  · unfold cAll at q
    split at q
    · obtain ⟨bs, rfl, q⟩ := q
      obtain ⟨v, rfl, cv⟩ := cz1 c
      obtain ⟨a, vs, rfl, l, f⟩ := cv
      rw [fz_bls f] at l
      exact cr_all hc pins s σ H _ us Q I rv ⟨a, bs, rfl, by rw [hK]; exact l, q _ H (Ex.refl H) (.bl _)⟩
    · exact q.elim
  · unfold cAll at q ⊢
    split at q
    · obtain ⟨bs, rfl, q⟩ := q
      exact ⟨bs, rfl, i _ q⟩
    · exact q.elim
theorem cax_any (hc : X.calm = true) (hK : X.K = G.K := by rfl) : CaX X G (.builtin "any") cAny := by
  refine ⟨fun pins s σ H xs us Q I rv ⟨T, ds, t, c, q⟩ => ?_, fun a Q Q' i q => ?_⟩
  · unfold cAny at q
    split at q
    · obtain ⟨bs, rfl, q⟩ := q
      obtain ⟨v, rfl, cv⟩ := cz1 c
      obtain ⟨a, vs, rfl, l, f⟩ := cv
      rw [fz_bls f] at l
      exact cr_any hc pins s σ H _ us Q I rv ⟨a, bs, rfl, by rw [hK]; exact l, q _ H (Ex.refl H) (.bl _)⟩
    · exact q.elim
  · unfold cAny at q ⊢
    split at q
    · obtain ⟨bs, rfl, q⟩ := q
      exact ⟨bs, rfl, i _ q⟩
    · exact q.elim

/-! ### methods of a list that change nothing -/
/-! ### str -/
end
/-! ### [::-1] -/
section
variable {prog : Program} {wo : World} {A : Around} {E : Value → Shared → Prop} {s : Shared}
end
section
variable {X : Cx} {G : Gx} {e : Expr} {w : WE}
end
end Fx

namespace Fx
open PySem PySem.Spec PyProof.Rows L2 Evl Lk

/-! ### values as arguments -/
abbrev WAD := Env → (List D → Env → Prop) → Prop
def MonoAD (w : WAD) : Prop := ∀ env (Q Q' : List D → Env → Prop), (∀ r e, Q r e → Q' r e) → w env Q → w env Q'
def adNil : WAD := fun env Q => Q [] env
def adCons (w : WE) (wr : WAD) : WAD := fun env Q => w env fun r e => ∃ d, r = .f d ∧ wr e fun ds e2 => Q (d :: ds) e2
def agD (d : D) : Ag := .v (.f d)
def waD (wd : WAD) : WA := fun env Q => wd env fun ds e => Q (ds.map agD) e
theorem argsD_map : ∀ ds : List D, argsD (ds.map agD) = some ds
  | [] => rfl
  | d :: ds => by
    show (argsD (ds.map agD)).map (d :: ·) = _
    rw [argsD_map ds] <;> rfl
theorem resA_map (e : Env) : ∀ ds : List D, resA (ds.map agD) e = some (ds.map Sl.f)
  | [] => rfl
  | d :: ds => by
    show (resA (ds.map agD) e).map (Sl.f d :: ·) = _
    rw [resA_map e ds] <;> rfl
theorem agOk_map : ∀ ds : List D, agOk (ds.map agD) = true
  | [] => rfl
  | d :: ds => agOk_map ds
theorem idx_map (i : Nat) : ∀ ds : List D, idxOwn (ds.map agD) i = none
  | [] => rfl
  | d :: ds => by
    show (idxOwn (ds.map agD) i).map (· + 1) = none
    rw [idx_map i ds] <;> rfl
theorem wbGo_map (ds : List D) (as' : List Sl) : ∀ (i : Nat) (e : Env), wbGo (ds.map agD) as' i e = e
  | _, [] => rfl
  | i, s :: e => by
    rw [wbGo, idx_map, wbGo_map ds as' (i + 1) e]
theorem cdL_map : ∀ ds : List D, cdL (ds.map Sl.f) = some ds
  | [] => rfl
  | d :: ds => by
    rw [List.map_cons, cdL, cdL_map ds] <;> rfl
theorem any_map (i : Nat) : ∀ ds : List D, (ds.map agD).any (slotIs i) = false
  | [] => rfl
  | d :: ds => any_map i ds
structure GD (X : Cx) (G : Gx) (es : List Expr) (wd : WAD) : Prop where
  ga : GA X G es (waD wd)
  mono : MonoAD wd
section
variable {X : Cx} {G : Gx} {e : Expr} {es : List Expr} {w w' : WE} {wa wa' : WA} {wd wr : WAD}
theorem ge_imp (h : GE X G e w) (i : ∀ env Q, w' env Q → w env Q) (m : MonoE w') : GE X G e w' := ⟨pe_imp h.pe fun σ H Q ⟨T, env, F, r, q⟩ => ⟨T, env, F, r, i _ _ q⟩, m⟩
theorem ga_imp (h : GA X G es wa) (i : ∀ env Q, wa' env Q → wa env Q) (m : MonoA wa') : GA X G es wa' := ⟨pa_imp h.pa fun σ H Q ⟨T, env, F, r, q⟩ => ⟨T, env, F, r, i _ _ q⟩, m⟩
theorem mono_waD (m : MonoAD wd) : MonoA (waD wd) := fun env Q Q' i q => m _ _ _ (fun ds e q => i _ _ q) q
theorem mono_adNil : MonoAD adNil := fun env Q Q' i q => i _ _ q
theorem mono_adCons (m : MonoE w) (n : MonoAD wr) : MonoAD (adCons w wr) := fun env Q Q' i q => m _ _ _ (fun r e ⟨d, hd, q⟩ => ⟨d, hd, n _ _ _ (fun ds e q => i _ _ q) q⟩) q
theorem ad_cons (m : MonoE w) {env : Env} {Q : List Ag → Env → Prop} (q : waD (adCons w wr) env Q) : waCons w (waD wr) env Q := m _ _ _ (fun r e ⟨d, hd, q⟩ => by
  subst hd
  exact ⟨nofun, q⟩) q
theorem gd_nil : GD X G [] adNil := ⟨ga_imp ga_nil (fun _ _ q => q) (mono_waD mono_adNil), mono_adNil⟩
theorem gd_cons (ha : GE X G e w) (hr : GD X G es wr) (hs : starEach (e :: es) X.env = (false, eval e X.env) :: starEach es X.env := by rfl) : GD X G (e :: es) (adCons w wr) :=
  ⟨ga_imp (ga_cons ha hr.ga hs) (fun _ _ q => ad_cons ha.mono q) (mono_waD (mono_adCons ha.mono hr.mono)), mono_adCons ha.mono hr.mono⟩
/-! displays -/
def wTupD (wd : WAD) : WE := fun env Q => wd env fun ds e => ds.length ≤ sizeLine ∧ Q (.f (.tup ds)) e
def wLstD (wd : WAD) : WE := fun env Q => wd env fun ds e => ds.length ≤ sizeLine ∧ Q (.f (.lst ds)) e
def wLstOD (wd : WAD) : WE := fun env Q => wd env fun ds e => ds.length ≤ sizeLine ∧ Q (.own (.lst ds)) e
theorem ge_tupD {k : Nat} {pos : Pos} (h : GD X G es wd) : GE X G (.Tuple es k pos) (wTupD wd) :=
  ge_imp (ge_tup h.ga) (fun env Q q => h.mono _ _ _ (fun ds e ⟨z, q⟩ => ⟨ds, argsD_map ds, z, q⟩) q) fun env Q Q' i q => h.mono _ _ _ (fun ds e ⟨z, q⟩ => ⟨z, i _ _ q⟩) q
theorem ge_lstD {pos : Pos} (h : GD X G es wd) : GE X G (.List es pos) (wLstD wd) :=
  ge_imp (ge_lst h.ga) (fun env Q q => h.mono _ _ _ (fun ds e ⟨z, q⟩ => ⟨ds, argsD_map ds, z, q⟩) q) fun env Q Q' i q => h.mono _ _ _ (fun ds e ⟨z, q⟩ => ⟨z, i _ _ q⟩) q
theorem ge_lstOD {pos : Pos} (h : GD X G es wd) : GE X G (.List es pos) (wLstOD wd) :=
  ge_imp (ge_lstO h.ga) (fun env Q q => h.mono _ _ _ (fun ds e ⟨z, q⟩ => ⟨ds, argsD_map ds, z, q⟩) q) fun env Q Q' i q => h.mono _ _ _ (fun ds e ⟨z, q⟩ => ⟨z, i _ _ q⟩) q
/-! built-ins -/
def wCBD (o : OpC) (wd : WAD) : WE := fun env Q => wd env fun ds e => o ds fun d => Q (.f d) e
theorem mono_cbd {o : OpC} (m : MonoAD wd) (mo : MonoC o) : MonoE (wCBD o wd) := fun env Q Q' i q => m _ _ _ (fun ds e q => mo _ _ _ (fun d q => i _ _ q) q) q
theorem cbd_cb {o : OpC} (m : MonoAD wd) {env : Env} {Q : Sl → Env → Prop} (q : wCBD o wd env Q) : wCB o (waD wd) env Q := m _ _ _ (fun ds e q => ⟨_, ds, resA_map e ds, cdL_map ds, q⟩) q
theorem ge_cbB {o : OpC} {id : String} {x : Str} {p pos : Pos} (c : CaX X G (.builtin id) o) (hg : Gl X x) (hm : X.mg x = none) (hv : bootBuiltins x = some (.builtin id)) (ha : GD X G (e :: es) wd) (hn : x ≠ "__name__" := by decide) (hdb : (x == ("__debug__" : Str)) = false := by decide)
    (he : starEach (e :: es) X.env = (false, eval e X.env) :: starEach es X.env := by rfl) (hpl : (backTo pos (starEach es X.env)).any (·.1) = false := by rfl) : GE X G (.Call (.Name x p) (e :: es) [] pos) (wCBD o wd) :=
  ge_imp (ge_cb (pe_callB c.ok hg hm hv ha.ga.pa hn hdb he hpl) ha.ga.mono c.mono) (fun _ _ q => cbd_cb ha.mono q) (mono_cbd ha.mono c.mono)
theorem ge_cbT {o : OpC} {id : String} {x : Str} {p pos : Pos} (c : CaX X G (.type id) o) (hg : Gl X x) (hm : X.mg x = none) (hv : bootBuiltins x = some (.type id)) (ha : GD X G (e :: es) wd) (hn : x ≠ "__name__" := by decide) (hdb : (x == ("__debug__" : Str)) = false := by decide)
    (he : starEach (e :: es) X.env = (false, eval e X.env) :: starEach es X.env := by rfl) (hpl : (backTo pos (starEach es X.env)).any (·.1) = false := by rfl) : GE X G (.Call (.Name x p) (e :: es) [] pos) (wCBD o wd) :=
  ge_imp (ge_cb (pe_callTy c.ok hg hm hv ha.ga.pa hn hdb he hpl) ha.ga.mono c.mono) (fun _ _ q => cbd_cb ha.mono q) (mono_cbd ha.mono c.mono)
/-- f(x), x a name whatever it holds -/
def wCB1 (o : OpC) (i : Nat) : WE := fun env Q => ∃ s d, env[i]? = some (some s) ∧ s.cd = some d ∧ o [d] fun d => Q (.f d) env
theorem mono_cb1 {o : OpC} {i : Nat} (mo : MonoC o) : MonoE (wCB1 o i) := fun env Q Q' j ⟨s, d, h1, h2, q⟩ => ⟨s, d, h1, h2, mo _ _ _ (fun d q => j _ _ q) q⟩
theorem cb1_cb {o : OpC} {i : Nat} {env : Env} {Q : Sl → Env → Prop} (q : wCB1 o i env Q) : wCB o (waSlot i false waNil) env Q := by
  obtain ⟨s, d, h1, h2, q⟩ := q
  refine ⟨⟨s, h1⟩, ?_⟩
  cases s with
  | f d' => exact ⟨[.f d'], [d], by simp only [resA, h1]; rfl, by simp only [cdL, h2], q⟩
  | own o' => exact ⟨[.vw o'], [d], by simp only [resA, h1]; rfl, by simp only [cdL]; rw [show (Sl.vw o').cd = some d from h2], q⟩
  | vw o' => exact ⟨[.vw o'], [d], by simp only [resA, h1]; rfl, by simp only [cdL, h2], q⟩
theorem ge_cbB1 {o : OpC} {id : String} {x : Str} {i : Nat} {p pos : Pos} (c : CaX X G (.builtin id) o) (hg : Gl X x) (hm : X.mg x = none) (hv : bootBuiltins x = some (.builtin id)) (ha : PE X e (tVar i)) (hn : x ≠ "__name__" := by decide) (hdb : (x == ("__debug__" : Str)) = false := by decide)
    (he : starEach [e] X.env = (false, eval e X.env) :: starEach [] X.env := by rfl) (hpl : (backTo pos (starEach [] X.env)).any (·.1) = false := by rfl) : GE X G (.Call (.Name x p) [e] [] pos) (wCB1 o i) :=
  ge_imp (ge_cb (pe_callB c.ok hg hm hv (ga_slot ha ga_nil he).pa hn hdb he hpl) (ga_slot (G := G) ha ga_nil he).mono c.mono) (fun _ _ q => cb1_cb q) (mono_cb1 c.mono)
theorem ge_cbT1 {o : OpC} {id : String} {x : Str} {i : Nat} {p pos : Pos} (c : CaX X G (.type id) o) (hg : Gl X x) (hm : X.mg x = none) (hv : bootBuiltins x = some (.type id)) (ha : PE X e (tVar i)) (hn : x ≠ "__name__" := by decide) (hdb : (x == ("__debug__" : Str)) = false := by decide)
    (he : starEach [e] X.env = (false, eval e X.env) :: starEach [] X.env := by rfl) (hpl : (backTo pos (starEach [] X.env)).any (·.1) = false := by rfl) : GE X G (.Call (.Name x p) [e] [] pos) (wCB1 o i) :=
  ge_imp (ge_cb (pe_callTy c.ok hg hm hv (ga_slot ha ga_nil he).pa hn hdb he hpl) (ga_slot (G := G) ha ga_nil he).mono c.mono) (fun _ _ q => cb1_cb q) (mono_cb1 c.mono)
/-! calls of defs -/
abbrev WFn := List D → (Sl → Prop) → Prop
abbrev WUn := O → List D → (Sl → O → Prop) → Prop
def liftF (W : WFn) : WD := fun as Q => ∃ ds, as = ds.map Sl.f ∧ W ds fun r => Q r (ds.map Sl.f)
def liftU (W : WUn) : WD := fun as Q => ∃ o ds, as = .own o :: ds.map Sl.f ∧ W o ds fun r o' => Q r (.own o' :: ds.map Sl.f)
def MonoF (W : WFn) : Prop := ∀ ds (Q Q' : Sl → Prop), (∀ d, Q d → Q' d) → W ds Q → W ds Q'
def MonoU2 (W : WUn) : Prop := ∀ o ds (Q Q' : Sl → O → Prop), (∀ r o, Q r o → Q' r o) → W o ds Q → W o ds Q'
theorem mono_liftF {W : WFn} (m : MonoF W) : MonoD (liftF W) := fun as Q Q' i ⟨ds, h, q⟩ => ⟨ds, h, m _ _ _ (fun d q => i _ _ q) q⟩
theorem mono_liftU {W : WUn} (m : MonoU2 W) : MonoD (liftU W) := fun as Q Q' i ⟨o, ds, h, q⟩ => ⟨o, ds, h, m _ _ _ _ (fun r o q => i _ _ q) q⟩
def wCallF (W : WFn) (wd : WAD) : WE := fun env Q => wd env fun ds e => W ds fun r => Q r e
def wCallU (i : Nat) (W : WUn) (wd : WAD) : WE := fun env Q => (∃ s, env[i]? = some (some s)) ∧ wd env fun ds e => ∃ o, e[i]? = some (some (.own o)) ∧ W o ds fun r o' => Q r (e.set i (some (.own o')))
theorem callF_call {W : WFn} (m : MonoF W) (n : MonoAD wd) {env : Env} {Q : Sl → Env → Prop} (q : wCallF W wd env Q) : wCall (liftF W) (waD wd) env Q :=
  n _ _ _ (fun ds e q => ⟨_, resA_map e ds, agOk_map ds, ds, rfl, m _ _ _ (fun d q => ⟨rfl, by rw [wbGo_map]; exact q⟩) q⟩) q
theorem mono_callF {W : WFn} (m : MonoF W) (n : MonoAD wd) : MonoE (wCallF W wd) := fun env Q Q' i q => n _ _ _ (fun ds e q => m _ _ _ (fun d q => i _ _ q) q) q
theorem mono_callU {i : Nat} {W : WUn} (m : MonoU2 W) (n : MonoAD wd) : MonoE (wCallU i W wd) := fun env Q Q' j ⟨h, q⟩ => ⟨h, n _ _ _ (fun ds e ⟨o, h, q⟩ => ⟨o, h, m _ _ _ _ (fun r o q => j _ _ q) q⟩) q⟩
theorem wb_own (ds : List D) (o' : Sl) (r : List Sl) (i : Nat) : ∀ (k : Nat) (e : Env), wbGo (.slot (k + i) true :: ds.map agD) (o' :: r) k e = e.set i (some o')
  | _, [] => by cases i <;> rfl
  | k, s :: e => by
    have idx : ∀ j, idxOwn (.slot (k + i) true :: ds.map agD) j = if k + i = j then some 0 else none := fun j => by
      show (if k + i = j then some 0 else (idxOwn (ds.map agD) j).map (· + 1)) = _
      rw [idx_map]
      rfl
    rw [wbGo, idx]
    cases i with
    | zero =>
      rw [if_pos (Nat.add_zero k)]
      show some o' :: wbGo _ _ (k + 1) e = some o' :: e
      congr 1
      have none_ : ∀ (m : Nat) (e : Env), k < m → wbGo (.slot (k + 0) true :: ds.map agD) (o' :: r) m e = e := by
        intro m e
        induction e generalizing m with
        | nil => intro _; rfl
        | cons s e ih =>
          intro hm
          rw [wbGo, idx, if_neg (by omega), ih (m + 1) (by omega)]
      exact none_ (k + 1) e (by omega)
    | succ i =>
      rw [if_neg (by omega)]
      show s :: wbGo _ _ (k + 1) e = s :: e.set i (some o')
      congr 1
      have := wb_own ds o' r i (k + 1) e
      rw [show k + 1 + i = k + (i + 1) by omega] at this
      exact this
theorem callU_call {i : Nat} {W : WUn} (m : MonoU2 W) (n : MonoAD wd) {env : Env} {Q : Sl → Env → Prop} (q : wCallU i W wd env Q) : wCall (liftU W) (waSlot i true (waD wd)) env Q := by
  obtain ⟨h, q⟩ := q
  refine ⟨h, n _ _ _ (fun ds e ⟨o, h, q⟩ => ?_) q⟩
  refine ⟨.own o :: ds.map Sl.f, by simp only [resA, h, resA_map]; rfl, ?_, o, ds, rfl, m _ _ _ _ (fun r o' q => ⟨rfl, ?_⟩) q⟩
  · show (!(ds.map agD).any (slotIs i) && agOk (ds.map agD)) = true
    rw [any_map, agOk_map]
    rfl
  · have := wb_own ds (.own o') (ds.map Sl.f) i 0 e
    rw [Nat.zero_add] at this
    rw [this]
    exact q
variable {x : Str} {k j : Nat} {tabs : List Addr} {p pos : Pos}
theorem ge_callF {W : WFn} (c : Cal X.prog X.w X.K X.mg X.base k x (spW X.K tabs (liftF W))) (hr : Room j X.A) (hk : k ≤ j) (hg : Gl X x) (hK : X.K = G.K) (ht : tabs = G.tabs) (mW : MonoF W) (ha : GD X G (e :: es) wd)
    (hdb : (x == ("__debug__" : Str)) = false := by decide) (he : starEach (e :: es) X.env = (false, eval e X.env) :: starEach es X.env := by rfl) (hpl : (backTo pos (starEach es X.env)).any (·.1) = false := by rfl) :
    GE X G (.Call (.Name x p) (e :: es) [] pos) (wCallF W wd) :=
  ge_imp (ge_call c hr hk hg hK ht (mono_liftF mW) ha.ga hdb he hpl) (fun _ _ q => callF_call mW ha.mono q) (mono_callF mW ha.mono)
theorem ge_callU {i : Nat} {W : WUn} (c : Cal X.prog X.w X.K X.mg X.base k x (spW X.K tabs (liftU W))) (hr : Room j X.A) (hk : k ≤ j) (hg : Gl X x) (hK : X.K = G.K) (ht : tabs = G.tabs) (mW : MonoU2 W) (hv : PE X e (tVar i)) (ha : GD X G es wd)
    (hdb : (x == ("__debug__" : Str)) = false := by decide) (he : starEach (e :: es) X.env = (false, eval e X.env) :: starEach es X.env := by rfl) (hpl : (backTo pos (starEach es X.env)).any (·.1) = false := by rfl) :
    GE X G (.Call (.Name x p) (e :: es) [] pos) (wCallU i W wd) :=
  ge_imp (ge_call c hr hk hg hK ht (mono_liftU mW) (ga_slot hv ha.ga he) hdb he hpl) (fun _ _ q => callU_call mW ha.mono q) (mono_callU mW ha.mono)
end

/-! ### defs -/
section
variable {P : Program} {w : World} {K : PySem.W.Frag} {mg : Str → Option Value} {base : Heap} {x : Str} {st : Stmt} {N ps : List Str} {k : Nat} {tabs : List Addr}
theorem outOk_f : ∀ (ds : List D) (env : Env), ds.length ≤ env.length → OutOk (List.replicate ds.length false) (ds.map Sl.f) env ∧ outA (List.replicate ds.length false) (ds.map Sl.f) env = ds.map Sl.f
  | [], _, _ => ⟨True.intro, by unfold outA; rfl⟩
  | d :: ds, [], h => absurd h (by simp)
  | d :: ds, e :: env, h => by
    obtain ⟨h1, h2⟩ := outOk_f ds env (by simpa using h)
    refine ⟨⟨?_, h1⟩, ?_⟩
    · rw [if_neg Bool.false_ne_true]
      exact nofun
    · show (if false = true then _ else Sl.f d) :: outA (List.replicate ds.length false) (ds.map Sl.f) env = Sl.f d :: ds.map Sl.f
      rw [h2] <;> rfl
theorem fx_fnF {W : WFn} {f : Addr} {fd : FuncData} (F : Fun K x x st f fd) (S : FnScope N ps (defScope st)) (hlen : ∀ ds Q, W ds Q → ds.length = ps.length)
    (hbody : ∀ (cdv : Value) (A : Around) (outer : List PySem.Env) (s : Shared) (H : Hp) (E : XK) (T : Addr → Prop) (P0 : Addr → Prop) (σ0 : L2.St), fd.code = cdv → Room k (A.deeper (envOfC x (defScope st) s.heap.objs.size f cdv)) →
      ∃ ws, GSs (cxOf CX0 P w K mg base N x (defScope st) f cdv A outer s H E).nox ⟨K, tabs, T, H, P0, σ0, fun i => (List.replicate ps.length false).getD i false, fun _ _ => False, fun _ => none⟩ (defBody st) ws ∧
        ∀ ds Q, W ds Q → ws ⟨fun env => ps.length ≤ env.length ∧ Q (.f .non), fun r env => ps.length ≤ env.length ∧ Q r, fun _ => False, fun _ => False⟩ (startE N (ds.map Sl.f))) : FnOk P w K mg base CX0 (k + 1) f fd ps (spW K tabs (liftF W)) := by
  refine fx_fn (List.replicate ps.length false) F S (fun as Q ⟨ds, h, q⟩ => by rw [h, List.length_map]; exact hlen _ _ q) fun cdv A outer s H E T P0 σ0 hcd hr => ?_
  obtain ⟨ws, h1, h2⟩ := hbody cdv A outer s H E T P0 σ0 hcd hr
  refine ⟨ws, h1, fun as Q ⟨ds, h, q⟩ => ?_⟩
  subst h
  have hl := hlen _ _ q
  refine h1.mono _ _ _ ?_ (h2 ds _ q)
  refine ⟨fun env ⟨l, q⟩ => ?_, fun r env ⟨l, q⟩ => ?_, fun _ h => h.elim, fun _ h => h.elim⟩
  · obtain ⟨a, b⟩ := outOk_f ds env (by rw [hl]; exact l)
    rw [hl] at a b
    exact ⟨a, by rw [b]; exact q⟩
  · obtain ⟨a, b⟩ := outOk_f ds env (by rw [hl]; exact l)
    rw [hl] at a b
    exact ⟨a, by rw [b]; exact q⟩
theorem fx_fnU {W : WUn} {f : Addr} {fd : FuncData} {p : Str} (F : Fun K x x st f fd) (S : FnScope N (p :: ps) (defScope st)) (hlen : ∀ o ds Q, W o ds Q → ds.length = ps.length)
    (hbody : ∀ (cdv : Value) (A : Around) (outer : List PySem.Env) (s : Shared) (H : Hp) (E : XK) (T : Addr → Prop) (P0 : Addr → Prop) (σ0 : L2.St), fd.code = cdv → Room k (A.deeper (envOfC x (defScope st) s.heap.objs.size f cdv)) →
      ∃ ws, GSs (cxOf CX0 P w K mg base N x (defScope st) f cdv A outer s H E).nox ⟨K, tabs, T, H, P0, σ0, fun i => (true :: List.replicate ps.length false).getD i false, fun _ _ => False, fun _ => none⟩ (defBody st) ws ∧
        ∀ o ds Q, W o ds Q → ws ⟨fun env => (p :: ps).length ≤ env.length ∧ ∃ o', env[0]? = some (some (.own o')) ∧ Q (.f .non) o', fun r env => (p :: ps).length ≤ env.length ∧ ∃ o', env[0]? = some (some (.own o')) ∧ Q r o', fun _ => False, fun _ => False⟩ (startE N (.own o :: ds.map Sl.f))) : FnOk P w K mg base CX0 (k + 1) f fd (p :: ps) (spW K tabs (liftU W)) := by
  refine fx_fn (true :: List.replicate ps.length false) F S (fun as Q ⟨o, ds, h, q⟩ => by rw [h, List.length_cons, List.length_map, hlen _ _ _ q]; rfl) fun cdv A outer s H E T P0 σ0 hcd hr => ?_
  obtain ⟨ws, h1, h2⟩ := hbody cdv A outer s H E T P0 σ0 hcd hr
  refine ⟨ws, h1, fun as Q ⟨o, ds, h, q⟩ => ?_⟩
  subst h
  have hl := hlen _ _ _ q
  have fin : ∀ (r : Sl) (env : Env), (p :: ps).length ≤ env.length → ∀ o', env[0]? = some (some (.own o')) → Q r (.own o' :: ds.map Sl.f) → OutOk (true :: List.replicate ps.length false) (.own o :: ds.map Sl.f) env ∧ Q r (outA (true :: List.replicate ps.length false) (.own o :: ds.map Sl.f) env) := by
    intro r env l o' he q
    cases env with
    | nil => exact absurd l (by simp)
    | cons e env =>
      obtain rfl : e = some (.own o') := by simpa using he
      obtain ⟨a, b⟩ := outOk_f ds env (by rw [hl]; simpa using l)
      rw [hl] at a b
      refine ⟨⟨by rw [if_pos rfl]; exact ⟨o', rfl⟩, a⟩, ?_⟩
      show Q r ((if true = true then Sl.own o' else _) :: outA (List.replicate ps.length false) (ds.map Sl.f) env)
      rw [b, if_pos rfl]
      exact q
  refine h1.mono _ _ _ ?_ (h2 o ds _ q)
  exact ⟨fun env ⟨l, o', he, q⟩ => fin _ env l o' he q, fun r env ⟨l, o', he, q⟩ => fin _ env l o' he q, fun _ h => h.elim, fun _ h => h.elim⟩
end
end Fx

namespace Fx
open PySem PySem.Spec PyProof.Rows L2 Evl Lk

/-! ### rules that take readings over trees alone -/
section
variable {X : Cx} {G : Gx} {e : Expr} {we : WE} {pos pos' : Pos} {x : Str} {i : Nat}
theorem gs_setE (hN : X.N.Nodup) (hi : X.N[i]? = some x) (hx : Loc X.env.scope x) (he : GE X G e we) (hp : G.prot i = false := by rfl) (hs : swapsWith e (some (.Name x pos')) pos.line X.env = pure false := by rfl)
    (hf : X.fn x = true ∨ X.env.scope.names.lookup x = some .local := by first | exact .inl rfl | exact .inr rfl) : GS X G (.Assign [.Name x pos'] e pos) (wSet i we) :=
  gs_set (ps_set hN hi hx he.pe hs hf) he.mono hp
theorem gp_k {d : D} (h : ∃ v u, X.mg x = some u ∧ RelV v u ∧ ∀ H, Fz G.K H v d) (hg : Gl X x) (hd : (x == ("__debug__" : Str)) = false := by decide) : GP X G (.Name x pos) (wC d) := by
  obtain ⟨v, u, h1, h2, h3⟩ := h
  exact gp_glob (pe_glob hg h1 h2 hd) h3
theorem gp_ty {n : String} (hg : Gl X x) (hm : X.mg x = none) (hv : bootBuiltins x = some (.type n)) (hn : x ≠ "__name__" := by decide) (hd : (x == ("__debug__" : Str)) = false := by decide) : GP X G (.Name x pos) (wC (.ty n)) :=
  gp_c (pe_bltn (v := .ty n) hg hm hv rfl hn hd) fun _ _ => .ty n
/-! negatives -/
def uNeg : Op1
  | .int i, Q => Q (.int (-i))
  | _, _ => False
theorem unx_neg : UnX X G (unaryOp .USub) uNeg := by
  refine ⟨fun pins s σ H x v Q I rx ⟨T, d, t, c, q⟩ => ?_, fun a Q Q' i q => ?_⟩
  · cases d with
    | int i =>
      cases c
      exact un_neg pins s σ H _ v Q I rx ⟨i, rfl, q _ H (Ex.refl H) (.int _)⟩
    | _ => exact (show False from q).elim
  · cases a <;> first | exact i _ q | exact q
/-! comprehensions -/
end
section
variable {X : Cx} {G : Gx} {elt tg iter c : Expr} {scope : Scope} {own : List (Str × Nat)} {pos spos py : Pos} {wi : WI} {t : Tgt} {w : WE} {wt : WT} {y : Str} {i : Nat}
abbrev GEB (X : Cx) (scope : Scope) (G : Gx) (elt : Expr) (w : WE) : Prop := ∀ (s : Shared) (H : Hp) (C : Addr) (cl : List (Str × Addr)) (fp : List Addr), GE (X.blk s H scope (compEnvC scope cl C X.env) fp) G elt w
abbrev GTB (X : Cx) (scope : Scope) (G : Gx) (elt : Expr) (w : WT) : Prop := ∀ (s : Shared) (H : Hp) (C : Addr) (cl : List (Str × Addr)) (fp : List Addr), GT (X.blk s H scope (compEnvC scope cl C X.env) fp) G elt w
abbrev PGB (X : Cx) (scope : Scope) (tg : Expr) (t : TG) : Prop := ∀ (s : Shared) (H : Hp) (C : Addr) (cl : List (Str × Addr)) (fp : List Addr), PG (X.blk s H scope (compEnvC scope cl C X.env) fp) tg t
theorem allB_mono {w : WE} (h : GEB X scope G elt w) : MonoE w := (h {} (fun _ => none) 0 [] []).mono
theorem allB_monoT {w : WT} (h : GTB X scope G elt w) : MonoT w := (h {} (fun _ => none) 0 [] []).mono
theorem ge_lcR (hc : X.calm = true) (hN : X.N.Nodup) (hi : GI X G tg iter wi) (ok : BlkOk X.N X.env.scope scope own) (hg : PGB X scope tg (t.tg G.K)) (he : GEB X scope G elt w)
    (hsub : ∀ j ∈ t.js, j ∈ own.map (·.2)) (hp : ∀ i ∈ own.map (·.2), G.prot i = false) (hL : ∀ i ∈ own.map (·.2), i < X.N.length) (hs : ∀ x, foldedSetIterable iter X.env x = pure x := by intro _; rfl) :
    GE X G (.ListComp elt [⟨tg, iter, [], 0⟩] scope pos) (wLc wi t (own.map (·.2)) wYes w) :=
  ge_lc (tt := tYes) (L2.pe_lc hc hN hi.pi ok hg (fun _ _ _ _ _ => pts_nil) (fun s H C cl fp => (he s H C cl fp).pe) hs) hi.mono (allB_mono he) (fun _ _ _ q => tt_yes q) mono_yes hsub hp hL
theorem ge_lcR1 (hc : X.calm = true) (hN : X.N.Nodup) (hi : GI X G tg iter wi) (ok : BlkOk X.N X.env.scope scope own) (hg : PGB X scope tg (t.tg G.K)) (ht : GTB X scope G c wt) (he : GEB X scope G elt w)
    (hsub : ∀ j ∈ t.js, j ∈ own.map (·.2)) (hp : ∀ i ∈ own.map (·.2), G.prot i = false) (hL : ∀ i ∈ own.map (·.2), i < X.N.length) (hs : ∀ x, foldedSetIterable iter X.env x = pure x := by intro _; rfl) :
    GE X G (.ListComp elt [⟨tg, iter, [c], 0⟩] scope pos) (wLc wi t (own.map (·.2)) wt w) :=
  ge_lc (L2.pe_lc hc hN hi.pi ok hg (fun s H C cl fp => pts_one (ht s H C cl fp).pt) (fun s H C cl fp => (he s H C cl fp).pe) hs) hi.mono (allB_mono he) (fun _ _ _ q => q) (allB_monoT ht) hsub hp hL
/-- name = [..], the name is not the comprehension's -/
theorem gs_lcR (hc : X.calm = true) (hN : X.N.Nodup) (hy : X.N[i]? = some y) (hyl : X.env.scope.names.lookup y = some .local) (hsw : swapsWith (.ListComp elt [⟨tg, iter, [], 0⟩] scope pos) (some (.Name y py)) spos.line X.env = pure true)
    (hi : GI X G tg iter wi) (ok : BlkOk X.N X.env.scope scope own) (hg : PGB X scope tg (t.tg G.K)) (he : GEB X scope G elt w)
    (hsub : ∀ j ∈ t.js, j ∈ own.map (·.2)) (hp : ∀ i ∈ own.map (·.2), G.prot i = false) (hL : ∀ i ∈ own.map (·.2), i < X.N.length) (hpi : G.prot i = false := by rfl) (hs : ∀ x, foldedSetIterable iter X.env x = pure x := by intro _; rfl) :
    GS X G (.Assign [.Name y py] (.ListComp elt [⟨tg, iter, [], 0⟩] scope pos) spos) (wSet i (wLc wi t (own.map (·.2)) wYes w)) :=
  gs_setLc (tt := tYes) (L2.ps_setLc hc hN hy hyl hsw hi.pi ok hg (fun _ _ _ _ _ => pts_nil) (fun s H C cl fp => (he s H C cl fp).pe) hs) hi.mono (allB_mono he) (fun _ _ _ q => tt_yes q) mono_yes hsub hp hL hpi
theorem gs_lcFR (hc : X.calm = true) (hN : X.N.Nodup) (hy : X.N[i]? = some y) (hyl : X.env.scope.names.lookup y = some .local) (hsw : swapsWith (.ListComp elt [⟨tg, iter, [], 0⟩] scope pos) (some (.Name y py)) spos.line X.env = pure true)
    (hi : GI X G tg iter wi) (ok : BlkOk X.N X.env.scope scope own) (hg : PGB X scope tg (t.tg G.K)) (he : GEB X scope G elt w)
    (hsub : ∀ j ∈ t.js, j ∈ own.map (·.2)) (hp : ∀ i ∈ own.map (·.2), G.prot i = false) (hL : ∀ i ∈ own.map (·.2), i < X.N.length) (hpi : G.prot i = false := by rfl) (hs : ∀ x, foldedSetIterable iter X.env x = pure x := by intro _; rfl) :
    GS X G (.Assign [.Name y py] (.ListComp elt [⟨tg, iter, [], 0⟩] scope pos) spos) (wSet i (wFrz (wLc wi t (own.map (·.2)) wYes w))) :=
  gs_setLcF (tt := tYes) (L2.ps_setLc hc hN hy hyl hsw hi.pi ok hg (fun _ _ _ _ _ => pts_nil) (fun s H C cl fp => (he s H C cl fp).pe) hs) hi.mono (allB_mono he) (fun _ _ _ q => tt_yes q) mono_yes hsub hp hL hpi
theorem gs_lcFR1 (hc : X.calm = true) (hN : X.N.Nodup) (hy : X.N[i]? = some y) (hyl : X.env.scope.names.lookup y = some .local) (hsw : swapsWith (.ListComp elt [⟨tg, iter, [c], 0⟩] scope pos) (some (.Name y py)) spos.line X.env = pure true)
    (hi : GI X G tg iter wi) (ok : BlkOk X.N X.env.scope scope own) (hg : PGB X scope tg (t.tg G.K)) (ht : GTB X scope G c wt) (he : GEB X scope G elt w)
    (hsub : ∀ j ∈ t.js, j ∈ own.map (·.2)) (hp : ∀ i ∈ own.map (·.2), G.prot i = false) (hL : ∀ i ∈ own.map (·.2), i < X.N.length) (hpi : G.prot i = false := by rfl) (hs : ∀ x, foldedSetIterable iter X.env x = pure x := by intro _; rfl) :
    GS X G (.Assign [.Name y py] (.ListComp elt [⟨tg, iter, [c], 0⟩] scope pos) spos) (wSet i (wFrz (wLc wi t (own.map (·.2)) wt w))) :=
  gs_setLcF (L2.ps_setLc hc hN hy hyl hsw hi.pi ok hg (fun s H C cl fp => pts_one (ht s H C cl fp).pt) (fun s H C cl fp => (he s H C cl fp).pe) hs) hi.mono (allB_mono he) (fun _ _ _ q => q) (allB_monoT ht) hsub hp hL hpi
end

/-! ### what is left to show, step by step -/
section
variable {env e : Env} {Q : Sl → Env → Prop} {QD : D → Prop} {QT : Bool → Env → Prop} {n b c : Env → Prop} {r : Sl → Env → Prop} {w w1 w2 w3 : WE} {v1 v2 : WP} {t u : WT} {s1 s2 : WS} {i : Nat} {o : Op2}
theorem x_seq (h : s1 ⟨fun e => s2 ⟨n, r, b, c⟩ e, r, b, c⟩ env) : wSeq s1 s2 ⟨n, r, b, c⟩ env := h
theorem x_next (h : n env) : wNext ⟨n, r, b, c⟩ env := h
theorem x_ret (h : w env fun s e => (∀ o, s ≠ .vw o) ∧ r s e) : wRet w ⟨n, r, b, c⟩ env := h
theorem x_ifS (h : t env fun k e => if k = true then s1 ⟨n, r, b, c⟩ e else s2 ⟨n, r, b, c⟩ e) : wIfS t s1 s2 ⟨n, r, b, c⟩ env := h
theorem x_set (h : w env fun s e => (∀ o, s ≠ .vw o) ∧ i < e.length ∧ n (e.set i (some s))) : wSet i w ⟨n, r, b, c⟩ env := h
theorem x_asg {g : WG} (h : w env fun s e => ∃ d, s = .f d ∧ g d e n) : wAsg w g ⟨n, r, b, c⟩ env := h
theorem x_gn {d : D} {q : Env → Prop} (h : i < env.length) (h2 : q (env.set i (some (.f d)))) : gn i d env q := ⟨h, h2⟩
theorem x_gtp {k : Nat} {ug : WGs} {ds : List D} {q : Env → Prop} (h : ds.length = k) (h2 : ug ds env q) : gTp k ug (.tup ds) env q := ⟨ds, rfl, h, h2⟩
theorem x_gnil {q : Env → Prop} (h : q env) : gsNil [] env q := ⟨rfl, h⟩
theorem x_gcons {g : WG} {ug : WGs} {d : D} {ds : List D} {q : Env → Prop} (h : g d env fun e => ug ds e q) : gsCons g ug (d :: ds) env q := ⟨d, ds, rfl, h⟩
theorem x_fin {d : D} {p : Prop} (h : p) : (∀ o, Sl.f d ≠ .vw o) ∧ p := ⟨nofun, h⟩
theorem x_fino {d : O} {p : Prop} (h : p) : (∀ o, Sl.own d ≠ .vw o) ∧ p := ⟨nofun, h⟩
theorem x_and {p q : Prop} (h : p) (h2 : q) : p ∧ q := ⟨h, h2⟩
theorem x_varF {d : D} {q : Sl → Prop} (h : env[i]? = some (some (.f d))) (h2 : q (.f d)) : wVar i env q := by unfold wVar; rw [h]; exact h2
theorem x_varO {o : O} {q : Sl → Prop} (h : env[i]? = some (some (.own o))) (h2 : q (.vw o)) : wVar i env q := by unfold wVar; rw [h]; exact h2
theorem x_c {d : D} {q : Sl → Prop} (h : q (.f d)) : wC d env q := h
theorem x_bin (h : w1 env fun r1 e1 => ∃ d1, r1 = .f d1 ∧ w2 e1 fun r2 e2 => ∃ d2, r2.cd = some d2 ∧ o d1 d2 fun d => Q (.f d) e2) : wBin o w1 w2 env Q := h
theorem x_binP {q : Sl → Prop} (h : v1 env fun r1 => ∃ d1, r1.cd = some d1 ∧ v2 env fun r2 => ∃ d2, r2.cd = some d2 ∧ o d1 d2 fun d => q (.f d)) : wBinP o v1 v2 env q := h
theorem x_exf {d : D} {p : D → Prop} (h : p d) : ∃ d1, Sl.f d = .f d1 ∧ p d1 := ⟨d, rfl, h⟩
theorem x_excd {d : D} {p : D → Prop} (h : p d) : ∃ d1, (Sl.f d).cd = some d1 ∧ p d1 := ⟨d, rfl, h⟩
theorem x_excV {o : O} {d : D} {p : D → Prop} (h : o.cd = some d) (h2 : p d) : ∃ d1, (Sl.vw o).cd = some d1 ∧ p d1 := ⟨d, h, h2⟩
theorem x_exb {k : Bool} {p : Bool → Prop} (h : p k) : ∃ b, Sl.f (.bl k) = .f (.bl b) ∧ p b := ⟨k, rfl, h⟩
theorem x_tru (h : w env fun s e => ∃ d, s.cd = some d ∧ dTru d fun b => QT b e) : wTru w env QT := h
theorem x_tB (h : w env fun s e => ∃ b, s = .f (.bl b) ∧ QT b e) : wTB w env QT := h
theorem x_dtB {k : Bool} {q : Bool → Prop} (h : q k) : dTru (.bl k) q := h
theorem x_tand (h : t env fun k e => if k = true then u e QT else QT false e) : wAnd t u env QT := h
theorem x_tor (h : t env fun k e => if k = true then QT true e else u e QT) : wOr t u env QT := h
theorem x_tnot (h : t env fun k e => QT (!k) e) : wNot t env QT := h
theorem x_and2 (h : w1 env fun s e => ∃ b, s = .f (.bl b) ∧ if b = true then w2 e Q else Q (.f (.bl false)) e) : wAndV w1 w2 env Q := h
theorem x_not2 (h : w1 env fun s e => ∃ b, s = .f (.bl b) ∧ Q (.f (.bl (!b))) e) : wNotV w1 env Q := h
theorem x_itT {p q : Prop} {inst : Decidable (true = true)} (h : p) : @ite _ (true = true) inst p q := by rw [if_pos rfl]; exact h
theorem x_itF {p q : Prop} {inst : Decidable (false = true)} (h : q) : @ite _ (false = true) inst p q := by rw [if_neg Bool.false_ne_true]; exact h
theorem x_itTe {k : Bool} {p q : Prop} {inst : Decidable (k = true)} (e : k = true) (h : p) : @ite _ (k = true) inst p q := by rw [if_pos e]; exact h
theorem x_itFe {k : Bool} {p q : Prop} {inst : Decidable (k = true)} (e : k = false) (h : q) : @ite _ (k = true) inst p q := by rw [if_neg (by rw [e]; exact Bool.false_ne_true)]; exact h
theorem x_ite {k : Bool} {p q : Prop} {inst : Decidable (k = true)} (h1 : k = true → p) (h2 : k = false → q) : @ite _ (k = true) inst p q := by
  cases k with
  | true => rw [if_pos rfl]; exact h1 rfl
  | false => rw [if_neg Bool.false_ne_true]; exact h2 rfl
/-- a test of which more is known: the word's two ways -/
theorem x_iteD {a : Prop} [Decidable a] {p q : Prop} {inst : Decidable (decide a = true)} (h1 : a → p) (h2 : ¬ a → q) : @ite _ (decide a = true) inst p q := by
  by_cases h : a
  · rw [if_pos (decide_eq_true h)]; exact h1 h
  · rw [if_neg (by simpa using h)]; exact h2 h
theorem x_iteN {k : Bool} {p q : Prop} {inst : Decidable ((!k) = true)} (h : if k = true then q else p) : @ite _ ((!k) = true) inst p q := by
  cases k with
  | true => rw [if_neg (show ¬ (!true) = true from Bool.false_ne_true)]; exact (if_pos rfl).mp h
  | false => rw [if_pos (show (!false) = true from rfl)]; exact (if_neg Bool.false_ne_true).mp h
/-! operations -/
theorem x_sub {a b : Int} (h : QD (.int (a - b))) : dII (fun _ _ => True) (fun i j => i - j) (.int a) (.int b) QD := ⟨True.intro, h⟩
theorem x_mul {a b : Int} (hc : CMulW a b) (h : QD (.int (a * b))) : dII CMulW (fun i j => i * j) (.int a) (.int b) QD := ⟨hc, h⟩
theorem x_mod {a b : Int} (hc : 0 < b) (h : QD (.int (a % b))) : dII (fun _ j => 0 < j) (fun i j => i % j) (.int a) (.int b) QD := ⟨hc, h⟩
theorem x_div {a b : Int} (hc : CDivW a b) (h : QD (.int (a / b))) : dII CDivW (fun i j => i / j) (.int a) (.int b) QD := ⟨hc, h⟩
theorem x_pow {a b : Int} (hc : CPowW a b) (h : QD (.int (a ^ b.toNat))) : dII CPowW (fun i j => i ^ j.toNat) (.int a) (.int b) QD := ⟨hc, h⟩
theorem x_neg {a : Int} (h : QD (.int (-a))) : uNeg (.int a) QD := h
theorem x_un {o1 : Op1} (h : w env fun s e => ∃ d, s.cd = some d ∧ o1 d fun d' => Q (.f d') e) : wUn o1 w env Q := h
theorem x_addI {a b : Int} (h : QD (.int (a + b))) : dAdd (.int a) (.int b) QD := h
theorem x_addS {a b : Str} (hz : a.length + b.length ≤ sizeLine) (h : QD (.str (a ++ b))) : dAdd (.str a) (.str b) QD := ⟨hz, h⟩
theorem x_addL {a b : List D} (hz : a.length + b.length ≤ sizeLine) (h : QD (.lst (a ++ b))) : dAdd (.lst a) (.lst b) QD := ⟨hz, h⟩
theorem x_addT {a b : List D} (hz : a.length + b.length ≤ sizeLine) (h : QD (.tup (a ++ b))) : dAdd (.tup a) (.tup b) QD := ⟨hz, h⟩
theorem x_lt {a b : Int} {g : List Nat → List Nat → Bool} (h : QD (.bl (decide (a < b)))) : dCmp (fun i j => decide (i < j)) g (.int a) (.int b) QD := h
theorem x_le {a b : Int} {g : List Nat → List Nat → Bool} (h : QD (.bl (decide (a ≤ b)))) : dCmp (fun i j => decide (i ≤ j)) g (.int a) (.int b) QD := h
theorem x_gt {a b : Int} {g : List Nat → List Nat → Bool} (h : QD (.bl (decide (b < a)))) : dCmp (fun i j => decide (j < i)) g (.int a) (.int b) QD := h
theorem x_ge {a b : Int} {g : List Nat → List Nat → Bool} (h : QD (.bl (decide (b ≤ a)))) : dCmp (fun i j => decide (j ≤ i)) g (.int a) (.int b) QD := h
theorem x_eqI {a b : Int} (h : QD (.bl (decide (a = b)))) : dEq false (.int a) (.int b) QD := ⟨rfl, rfl, by rw [if_neg Bool.false_ne_true]; exact (show PyData.eqv (.int a) (.int b) = decide (a = b) by simp [PyData.eqv]; rfl) ▸ h⟩
theorem x_isT {neg : Bool} (h : QD (.bl (!neg))) : dIsN neg .non .non QD := ⟨rfl, h⟩
theorem x_isI {neg : Bool} {a : Int} (h : QD (.bl neg)) : dIsN neg (.int a) .non QD := ⟨rfl, h⟩
theorem x_ixL {ds : List D} {k : Int} {d : D} (ha : atI ds k = some d) (h : QD d) : dIx (.lst ds) (.int k) QD := ⟨d, ha, h⟩
theorem x_ixT {ds : List D} {k : Int} {d : D} (ha : atI ds k = some d) (h : QD d) : dIx (.tup ds) (.int k) QD := ⟨d, ha, h⟩
theorem atI_at {α : Type} {ds : List α} {k : Int} (h0 : 0 ≤ k) (h1 : k < ds.length) : ∃ d, atI ds k = some d ∧ ds[k.toNat]? = some d := by
  have hk : k.toNat < ds.length := by omega
  have h := L2.atI_nat (xs := ds) (List.getElem?_eq_getElem hk)
  rw [Int.toNat_of_nonneg h0] at h
  exact ⟨_, h, List.getElem?_eq_getElem hk⟩
theorem x_ixM {ds : List D} {k : Int} (h0 : 0 ≤ k) (h1 : k < ds.length) (h : ∀ d ∈ ds, QD d) : dIx (.lst ds) (.int k) QD := by
  obtain ⟨d, h2, h3⟩ := atI_at h0 h1
  exact ⟨d, h2, h d (List.mem_of_getElem? h3)⟩
theorem x_ixS {z : Str} {k : Int} {c : Nat} (hz : z.length ≤ sizeLine) (h0 : atI z.cps.toList k = some c) (h : QD (.str ⟨#[c]⟩)) : dIx (.str z) (.int k) QD := ⟨hz, c, h0, h⟩
/-! arguments, displays, calls -/
variable {wd wr : WAD} {QA : List D → Env → Prop}
theorem x_adN (h : QA [] env) : adNil env QA := h
theorem x_adC (h : w env fun r e => ∃ d, r = .f d ∧ wr e fun ds e2 => QA (d :: ds) e2) : adCons w wr env QA := h
theorem x_tup (h : wd env fun ds e => ds.length ≤ sizeLine ∧ Q (.f (.tup ds)) e) : wTupD wd env Q := h
theorem x_lst (h : wd env fun ds e => ds.length ≤ sizeLine ∧ Q (.f (.lst ds)) e) : wLstD wd env Q := h
theorem x_lstO (h : wd env fun ds e => ds.length ≤ sizeLine ∧ Q (.own (.lst ds)) e) : wLstOD wd env Q := h
theorem x_cb {o : OpC} (h : wd env fun ds e => o ds fun d => Q (.f d) e) : wCBD o wd env Q := h
theorem x_cb1 {o : OpC} {s : Sl} {d : D} (h1 : env[i]? = some (some s)) (h2 : s.cd = some d) (h : o [d] fun d => Q (.f d) env) : wCB1 o i env Q := ⟨s, d, h1, h2, h⟩
theorem x_callF {W : WFn} (h : wd env fun ds e => W ds fun r => Q r e) : wCallF W wd env Q := h
theorem x_callU {W : WUn} {s : Sl} (h0 : env[i]? = some (some s)) (h : wd env fun ds e => ∃ o, e[i]? = some (some (.own o)) ∧ W o ds fun r o' => Q r (e.set i (some (.own o')))) : wCallU i W wd env Q := ⟨⟨s, h0⟩, h⟩
theorem x_exO {p : O → Prop} {o : O} (h : env[i]? = some (some (.own o))) (h2 : p o) : ∃ o, env[i]? = some (some (.own o)) ∧ p o := ⟨o, h, h2⟩
theorem x_exl {ds : List D} {p : List D → Prop} (h : p ds) : ∃ d1, Sl.f (.lst ds) = .f (.lst d1) ∧ p d1 := ⟨ds, rfl, h⟩
theorem x_ext {ds : List D} {p : List D → Prop} (h : p ds) : ∃ d1, Sl.f (.tup ds) = .f (.tup d1) ∧ p d1 := ⟨ds, rfl, h⟩
theorem x_exs {a : Str} {p : Str → Prop} (h : p a) : ∃ d1, Sl.f (.str a) = .f (.str d1) ∧ p d1 := ⟨a, rfl, h⟩
theorem x_exi {a : Int} {p : Int → Prop} (h : p a) : ∃ d1, Sl.f (.int a) = .f (.int d1) ∧ p d1 := ⟨a, rfl, h⟩
theorem x_sl {lo hi : WO} (h : w env fun r e => ∃ d, r = .f d ∧ lo e fun l e2 => hi e2 fun u e3 => dSl d l u fun d => Q (.f d) e3) : wSl w lo hi env Q := h
theorem x_slN {q : Option Int → Env → Prop} (h : q none env) : woN env q := h
theorem x_slS {q : Option Int → Env → Prop} (h : w env fun r e => ∃ i, r = .f (.int i) ∧ q (some i) e) : woS w env q := h
theorem x_frz (h : w env fun r e => ∃ o d, r = .own o ∧ o.cd = some d ∧ Q (.f d) e) : wFrz w env Q := h
theorem x_frL {ds : List D} {p : D → Prop} (h : p (.lst ds)) : ∃ o d, Sl.own (.lst ds) = .own o ∧ o.cd = some d ∧ p d := ⟨_, _, rfl, rfl, h⟩
theorem x_setL {d : D} {ds : List D} {wi : WE} {q : Env → Prop} (h0 : env[i]? = some (some (.own (.lst ds)))) (h : wi env fun r e => ∃ k j ds, r = .f (.int k) ∧ e[i]? = some (some (.own (.lst ds))) ∧ ixN ds.length k = some j ∧ q (e.set i (some (.own (.lst (ds.set j d)))))) : gSetL i wi d env q := ⟨⟨ds, h0⟩, h⟩
theorem x_lc {wi : WI} {tg : Tgt} {vs : List Nat} (h : wi env fun ds e0 => ds.length ≤ 100000 ∧ ∃ J : Nat → List D → Env → Prop, J 0 [] e0 ∧
  (∀ i d acc e, ds[i]? = some d → J i acc e → ∃ xs, tg.get d = some xs ∧ t (setE (wipeE e vs) tg.js xs) fun b e2 => if b = true then w e2 fun r e3 => ∃ d', r = .f d' ∧ J (i + 1) (acc ++ [d']) e3 else J (i + 1) acc e2) ∧
  ∀ acc e, J ds.length acc e → Q (.own (.lst acc)) (wipeE e vs)) : wLc wi tg vs t w env Q := h
end
end Fx
namespace Fx
theorem mem1 {p : Nat → Prop} {x : PySem.Str} {a : Nat} (h : p a) : ∀ i ∈ [(x, a)].map (·.2), p i := fun i hi => by
  obtain rfl := List.mem_singleton.mp hi
  exact h
end Fx
namespace Fx
open PySem L2
section
variable {Q : D → Prop}
theorem x_lenL {ds : List D} (h : Q (.int ds.length)) : cLen [.lst ds] Q := h
theorem x_lenT {ds : List D} (h : Q (.int ds.length)) : cLen [.tup ds] Q := h
theorem x_max {a b : Int} (h : Q (.int (if b > a then b else a))) : cMax2 [.int a, .int b] Q := h
theorem x_min {a b : Int} (h : Q (.int (if b < a then b else a))) : cMin2 [.int a, .int b] Q := h
theorem x_intB {a : Bool} (h : Q (.int (if a then 1 else 0))) : cInt [.bl a] Q := h
theorem x_all {bs : List Bool} (h : Q (.bl (bs.all id))) : cAll [.lst (bs.map D.bl)] Q := ⟨bs, rfl, h⟩
end
end Fx
namespace Fx
open PySem L2
theorem x_start {w : WS} {D : WEnds} {N : List Str} {as : List Sl} {e : Env} (h : startE N as = e) (q : w D e) : w D (startE N as) := by rw [h]; exact q
end Fx
namespace Fx
open PySem L2 Lk
def isTup : D → Bool
  | .tup _ => true
  | _ => false
abbrev NoTy (d : D) : Prop := ∀ m, d ≠ .ty m
section
variable {d : D} {Q : D → Prop}
theorem kit_at {n : String} {b : Bool} {T : String} (e : tyN d = T) (nt : NoTy d) (h : kitB T n = some b) (q : Q (.bl b)) : cIsi [d, .ty n] Q := by
  refine ⟨b, ?_, q⟩
  unfold isiB
  split
  · exact absurd rfl (nt _)
  · rw [e]; exact h
theorem x_isStr (nt : NoTy d) (h : Q (.bl (isStr d))) : cIsi [d, .ty "str"] Q := by
  cases d <;> first | exact absurd rfl (nt _) | exact kit_at rfl nt (by simp only [tyN, isStr]; decide +kernel) h
theorem x_isTup (nt : NoTy d) (h : Q (.bl (isTup d))) : cIsi [d, .ty "tuple"] Q := by
  cases d <;> first | exact absurd rfl (nt _) | exact kit_at rfl nt (by simp only [tyN, isTup]; decide +kernel) h
end
end Fx

namespace Fx
open PySem L2 Lk
def memB (ds : List D) (a : D) : Bool := (D.pyL ds).any fun z => PyData.eqv z a.py
def eqB (a b : D) : Bool := PyData.eqv a.py b.py
section
variable {Q : D → Prop}
theorem x_inL {a : D} {ds : List D} (h1 : okPy a = true) (h2 : okPy (.lst ds) = true) (h : Q (.bl (memB ds a))) : dIn false a (.lst ds) Q := ⟨h1, h2, h⟩
theorem x_ninL {a : D} {ds : List D} (h1 : okPy a = true) (h2 : okPy (.lst ds) = true) (h : Q (.bl (!memB ds a))) : dIn true a (.lst ds) Q := ⟨h1, h2, h⟩
theorem x_eqD {a b : D} (h1 : okPy a = true) (h2 : okPy b = true) (h : Q (.bl (eqB a b))) : dEq false a b Q := ⟨h1, h2, h⟩
theorem x_neD {a b : D} (h1 : okPy a = true) (h2 : okPy b = true) (h : Q (.bl (!eqB a b))) : dEq true a b Q := ⟨h1, h2, h⟩
theorem x_neI {a b : Int} (h : Q (.bl (!decide (a = b)))) : dEq true (.int a) (.int b) Q := ⟨rfl, rfl, by
  rw [if_pos rfl]
  exact (show PyData.eqv (.int a) (.int b) = decide (a = b) by simp [PyData.eqv]; rfl) ▸ h⟩
def isNon : D → Bool
  | .non => true
  | _ => false
theorem x_isN {neg : Bool} {a : D} (h : Q (.bl (if isNon a = true then !neg else neg))) : dIsN neg a .non Q := by
  refine ⟨rfl, ?_⟩
  cases a <;> exact h
end
section
variable {w : WE} {env : Env} {Q : Sl → Env → Prop}
end
end Fx
namespace Fx
open PySem PySem.Spec PyProof.Rows L2 Evl Lk
section
variable {X : Cx} {G : Gx} {w : WE} {c P : Addr} {iter : Expr} {x : Str} {px p pos gpos p1 p2 p3 p4 : Pos} {scope : Scope} {k : Nat}
end
end Fx

namespace Fx
open PySem PySem.Spec PyProof.Rows L2 Evl Lk
section
variable {X : Cx} {G : Gx}
end
section
variable {env : Env} {n b c : Env → Prop} {r : Sl → Env → Prop} {i : Nat} {we wi : WE} {o2 : Op2} {QD : D → Prop}
theorem x_setL1 {e : Env} {ds : List D} {k : Int} {j : Nat} {d : D} {q : Env → Prop} (h0 : e[i]? = some (some (.own (.lst ds)))) (hj : ixN ds.length k = some j) (h : q (e.set i (some (.own (.lst (ds.set j d)))))) : ∃ k' j ds, Sl.f (.int k) = .f (.int k') ∧ e[i]? = some (some (.own (.lst ds))) ∧ ixN ds.length k' = some j ∧ q (e.set i (some (.own (.lst (ds.set j d))))) := ⟨k, j, ds, rfl, h0, hj, h⟩
end
theorem mul_ok {i j : Int} (hi : i.natAbs < 2 ^ 250) (hj : j.natAbs < 2 ^ 250) : CMulW i j := by
  have a := PySem.Flt.log2_lt_of (by decide) hi
  have b := PySem.Flt.log2_lt_of (by decide) hj
  show i.natAbs.log2 + j.natAbs.log2 < 1000000
  omega
theorem div_ok {i j : Int} (h0 : 0 < j) (hj : j.natAbs < 2 ^ 250) : CDivW i j := ⟨h0, by
  have b := PySem.Flt.log2_lt_of (by decide) hj
  omega⟩
/-! ### the urn of a law -/
def Un (o : O) (n : Nat) : Prop := ∃ a b c : Int, o = .lst [.int a, .int b, .int c] ∧ b.natAbs < 2 ^ 200 ∧ 0 ≤ c ∧ c ≤ n
theorem Un.mono {o : O} {n m : Nat} (h : Un o n) (e : n ≤ m) : Un o m := let ⟨a, b, c, h1, h2, h3, h4⟩ := h; ⟨a, b, c, h1, h2, h3, by omega⟩
def wLot : WUn := fun o ds Q => ∃ n m, ds = [.int m] ∧ Un o n ∧ n < 100000 ∧ 0 < m ∧ m ≤ 1000000000 ∧ ∀ k o', 0 ≤ k → k < m → Un o' (n + 1) → Q (.f (.int k)) o'
theorem mono__law_lot : MonoU2 wLot := fun o ds Q Q' i ⟨n, m, h1, h2, h3, h4, h5, q⟩ => ⟨n, m, h1, h2, h3, h4, h5, fun k o' a b c => i _ _ (q k o' a b c)⟩
theorem x_lot {o : O} {n : Nat} {m : Int} {Q : Sl → O → Prop} (u : Un o n) (hn : n < 100000) (h0 : 0 < m) (h1 : m ≤ 1000000000) (q : ∀ k o', 0 ≤ k → k < m → Un o' (n + 1) → Q (.f (.int k)) o') : wLot o [.int m] Q := ⟨n, m, rfl, u, hn, h0, h1, q⟩
def wUrn : WFn := fun ds Q => ∃ c k : Int, ds = [.int c, .int k] ∧ 0 ≤ k ∧ k ≤ 63 ∧ ∀ o, Un o 0 → Q (.own o)
theorem mono__law_urn : MonoF wUrn := fun ds Q Q' i ⟨c, k, h1, h2, h3, q⟩ => ⟨c, k, h1, h2, h3, fun o u => i _ (q o u)⟩
end Fx
namespace Fx
open PySem PySem.Spec PyProof.Rows L2 Evl Lk
section
variable {env : Env} {Q : Sl → Env → Prop} {w w1 w2 : WE} {wd : WAD} {wa : WA} {QI : List D → Env → Prop} {QA : List Ag → Env → Prop} {n b c : Env → Prop} {r : Sl → Env → Prop}
theorem x_join (h : w1 env fun r1 e1 => ∃ a, r1 = .f (.str a) ∧ w2 e1 fun r2 e2 => ∃ ds ys, (r2.cd = some (.lst ds) ∨ r2.cd = some (.tup ds)) ∧ ds = ys.map D.str ∧ (ys.map (·.length)).sum + ys.length * a.length ≤ 16777216 ∧ Q (.f (.str (Txt.join a ys))) e2) : wJoin w1 w2 env Q := h
theorem x_waD (h : wd env fun ds e => QA (ds.map agD) e) : waD wd env QA := h
theorem x_r1 (h : wa env fun as e => ∃ j : Int, as = [.v (.f (.int j))] ∧ -(2 ^ 62) ≤ j ∧ j < 2 ^ 62 ∧ QI ((List.range j.toNat).map fun k : Nat => .int (0 + (k : Int))) e) : wiR1 wa env QI := h
theorem x_r2 (h : wa env fun as e => ∃ i j : Int, as = [.v (.f (.int i)), .v (.f (.int j))] ∧ (-(2 ^ 62) ≤ i ∧ i < 2 ^ 62 ∧ -(2 ^ 62) ≤ j ∧ j < 2 ^ 62) ∧ QI ((List.range (j - i).toNat).map fun k : Nat => .int (i + (k : Int))) e) : wiR2 wa env QI := h
theorem x_r1e {k : Int} {p : Int → Prop} (h0 : -(2 ^ 62) ≤ k) (h1 : k < 2 ^ 62) (h : p k) : ∃ j : Int, List.map agD [.int k] = [.v (.f (.int j))] ∧ -(2 ^ 62) ≤ j ∧ j < 2 ^ 62 ∧ p j := ⟨k, rfl, h0, h1, h⟩
theorem x_iL (h : w env fun r e => ∃ ds, r = .f (.lst ds) ∧ QI ds e) : wiL w env QI := h
theorem x_iT (h : w env fun r e => ∃ ds, r = .f (.tup ds) ∧ QI ds e) : wiT w env QI := h
theorem x_iS (h : w env fun r e => ∃ x, r = .f (.str x) ∧ QI (signs x) e) : wiS w env QI := h
theorem x_yes {QT : Bool → Env → Prop} (h : QT true env) : wYes env QT := h
theorem x_for {wi : WI} {g : WG} {ws : WS} (h : wi env fun ds e0 => ∃ J : Nat → Env → Prop, J 0 e0 ∧ (∀ i d e, ds[i]? = some d → J i e → g d e fun e' => ws ⟨J (i + 1), r, n, J (i + 1)⟩ e') ∧ ∀ e, J ds.length e → n e) : wFor wi g ws ⟨n, r, b, c⟩ env := h
theorem rng_at {k i : Nat} {d : D} (h : ((List.range k).map fun j : Nat => D.int (0 + (j : Int)))[i]? = some d) : i < k ∧ d = .int (i : Int) := by
  rw [List.getElem?_map] at h
  have hi : i < k := by
    rcases Nat.lt_or_ge i k with z | z
    · exact z
    · rw [List.getElem?_eq_none (by rw [List.length_range]; exact z)] at h
      cases h
  rw [List.getElem?_range hi] at h
  refine ⟨hi, ?_⟩
  have h : some (D.int (0 + (i : Int))) = some d := h
  rw [Int.zero_add] at h
  exact (Option.some.inj h).symm
end
end Fx
namespace Fx
open PySem PySem.Spec PyProof.Rows L2 Evl Lk
end Fx
namespace Fx
open PySem PySem.Spec PyProof.Rows L2 Evl Lk
/-! a cut behind a statement -/
def wCut (w1 w2 : WS) : WS := fun D env => ∃ P : Env → Prop, w1 ⟨P, D.rt, D.bk, D.ct⟩ env ∧ ∀ e, P e → w2 D e
theorem gss_cut {X : Cx} {G : Gx} {st : Stmt} {rest : List Stmt} {w1 w2 : WS} (h : GS X G st w1) (h2 : GSs X G rest w2) : GSs X G (st :: rest) (wCut w1 w2) := by
  have c := gss_cons h h2
  refine ⟨pss_imp c.pss fun D σ H ⟨T, env, F, r, P, q1, q2⟩ => ⟨T, env, F, r, h.mono _ _ _ ?_ q1⟩, fun D D' env l ⟨P, q1, q2⟩ => ⟨P, h.mono _ _ _ ?_ q1, fun e p => h2.mono _ _ _ l (q2 e p)⟩⟩
  · exact ⟨fun e p => q2 e p, fun _ _ q => q, fun _ q => q, fun _ q => q⟩
  · exact ⟨fun e p => p, l.rt, l.bk, l.ct⟩
section
variable {env : Env} {n b c : Env → Prop} {r : Sl → Env → Prop} {s1 s2 : WS}
theorem x_cut (P : Env → Prop) (h : s1 ⟨P, r, b, c⟩ env) (h2 : ∀ e, P e → s2 ⟨n, r, b, c⟩ e) : wCut s1 s2 ⟨n, r, b, c⟩ env := ⟨P, h, h2⟩
end
/-! texts -/
theorem strOk_list {x : Str} (h : ∀ c ∈ x.cps.toList, c < 0x110000) : PyData.strOk x = true := by
  unfold PyData.strOk
  rw [Array.all_eq_true']
  exact fun c hc => decide_eq_true (h c (by simpa using hc))
theorem okPy_str {x : Str} (h : PyData.strOk x = true) : okPy (.str x) = true := by
  unfold okPy SeqAt.shaped
  rw [Bool.and_eq_true]
  exact ⟨by show PyData.canLay0 (.str x) = true; unfold PyData.canLay0; exact h, by show decide (PyData.depth (.str x) ≤ 64) = true; unfold PyData.depth; rfl⟩
end Fx
namespace Fx
open PySem PySem.Spec PyProof.Rows L2 Evl Lk
section
variable {Q : D → Prop} {env : Env} {QE : Sl → Env → Prop} {w : WE}
theorem x_slT {ds ds' : List D} {lo hi : Option Int} (e : cutD ds lo hi = ds') (h : Q (.tup ds')) : dSl (.tup ds) lo hi Q := by subst e; exact h
theorem x_lstT {ds : List D} (h : Q (.lst ds)) : cList [.tup ds] Q := h
end
end Fx

namespace Fx
open PySem PySem.Spec PyProof.Rows L2 Evl Lk
/-! ### the law as the top calls it -/
def wLaw : WFn := fun ds Q => ∃ ns : List Int, ds = [.lst (ns.map D.int)] ∧ ns.length ≤ 63 ∧ Q (.f (.bl true))
theorem fz_ints {K : PySem.W.Frag} {H : Hp} : ∀ ns : List Int, FzL K H (ns.map V.int) (ns.map D.int)
  | [] => .nil
  | n :: ns => .cons (.int n) (fz_ints ns)
theorem law_at {l : PySem.W.OpenLaw} {w : World} {K : PySem.W.Frag} {k : Nat} {x : Str} {mg : Str → Option Value} {h : Heap} {fa : Addr} {fd : FuncData} {cs : List (Addr × Addr)}
    (hT : ∀ p ∈ cs, h.get? p.2 = some { cls := .none, data := .fields #[] }) (nT : ∀ p ∈ cs, K.lookup p.2 = none) (C : ∀ p ∈ cs, PySem.W.CodeHd h p.1 p.2) (hb : ∀ (s : Shared) (u : Value), BindsTo s fd ⟨[u], []⟩ [(x, u)])
    (F : ∀ base : Heap, K.In base → base.Ns mainGlobals mg → (∀ p ∈ cs, GxR.TabB base mg p.1 p.2) → FnOk l.prog w K mg base CX0 k fa fd [x] (spW K (cs.map (·.2)) (liftF wLaw))) : LawAt l w K k 63 x mg h fa := by
  refine ⟨fd, cs, _, hT, nT, C, hb, fun H a ns hn _ hH hS => ?_, F⟩
  have e : Ex H (hid (fun _ => False) H) := fun b o q => hid_of q id
  refine ⟨fun _ => False, [.f (.lst (ns.map D.int))], fun _ => [], ⟨fun _ z => z.elim, fun p hp => ?_, fun i s hs => ?_, fun i j _ ⟨o, ho⟩ => ?_, .refl fun _ z => z.elim, fun b ⟨i, ⟨o, ho⟩, _⟩ => ?_, fun _ z => z.elim, fun _ _ => rfl, rfl, ex_none⟩, [.lst (ns.map D.int)], rfl, ns, rfl, hn, fun v T' H' F' fr r' _ zs => ?_⟩
  · obtain ⟨q, hq, rfl⟩ := List.mem_map.mp hp
    exact ⟨hH q hq, id⟩
  · cases i with
    | zero =>
      cases hs
      exact ⟨.ref a, rfl, .lst (ex_l e hS.l) (fz_ints ns), rfl⟩
    | succ i => cases hs
  · cases i with
    | zero => cases ho
    | succ i => cases ho
  · cases i with
    | zero => cases ho
    | succ i => cases ho
  · have z := zs.rel.1
    cases z
    exact ⟨rfl, fun p hp => (r'.tab p.2 (List.mem_map.mpr ⟨p, hp, rfl⟩)).1⟩
end Fx

namespace L2
open PySem PySem.Spec PyProof.Rows
/-! ### except x as n, the exception's object tracked within the suite and behind it -/
section
variable {X : Cx} {pins : List (Addr × Obj)} {σ : St} {H : Hp} {s : Shared} {a : Addr} {o : HO}
end
section
variable {X : Cx} {x n : Str} {c : Value} {i : Nat} {body suite : List Stmt} {b₀ : Stmt} {np pos pos' : Pos} {tb : WX → TS} {ts : TS} {Wout : WX}
end
end L2

namespace Fx
open PySem PySem.Spec PyProof.Rows L2 Evl Lk

/-! ### defs that may raise, called -/
section
variable {P : Program} {w : World} {K : PySem.W.Frag} {mg : Str → Option Value} {base : Heap} {x : Str} {st : Stmt} {ps : List Str} {k : Nat} {sp : Sp} {f : Addr} {fd : FuncData} {c : Addr}
end

section
variable {X : Cx} {G : Gx} {e : Expr} {es : List Expr} {wa : WA} {x : Str} {k j : Nat} {W : WDX} {tabs : List Addr} {p pos : Pos}
end

/-! ### raise -/
section
variable {X : Cx} {G : Gx} {x : Str} {C : Addr} {p p2 pos pos2 : Pos} {m : Str} {j : Nat}
end

/-! ### try -/
section
variable {G : Gx} {xw : Xv → Env → Prop} {h0 : Hp} {T : Addr → Prop} {H : Hp} {σ : L2.St} {env : Env} {F : Nat → List Addr}
end
section
variable {X : Cx} {G : Gx} {x n : Str} {c : Value} {i : Nat} {body suite : List Stmt} {b₀ : Stmt} {np pos pos' : Pos} {tb : (Xv → Env → Prop) → WS} {ts : WS}
end
end Fx

namespace PySem.W
open PySem
section
variable {prog : Program} {w : World} {A : Around} {E : Value → Shared → Prop} {s : Shared} {K : Frag} {x D : Addr} {ox : Obj} {od : Option Obj}
end
end PySem.W
namespace Fx
open PySem PySem.Spec PyProof.Rows L2 Evl Lk
/-! ### exceptions as values -/
section
variable {X : Cx} {G : Gx} {pins : List (Addr × Obj)} {σ : L2.St} {H : Hp} {s : Shared} {a C : Addr} {d : Option Addr} {row : Option Int}
/-! isinstance -/
/-! e.row -/
end
end Fx

/-! an own exception class whose __init__(self, row) says super().__init__(a text of row); self.row = row -/
namespace PySem
namespace RowX
open PySem.W PySem.Calls PyProof.Rows PySem.HandSPX
section
variable {prog : Program} {w : World} {A : Around} {E : Value → Shared → Prop} {h : Heap} {g : Array GenState} {d : Drawn} {t : Nat} {os : OsState}
variable {nm q : Str} {C N : Addr} {bs bm : List Value} {hdct : Bool} {sn : List Str} {sub : List Value} {ab : Bool} {col : Option Bool} {dd : Option Addr} {k0 k1 k2 k3 k5 : Option Value}
end
section
variable {prog : Program} {w : World} {A : Around} {E : Value → Shared → Prop} {R : Result → Shared → Prop} {s : Shared} {K : Frag} {mg mb : Str → Option Value} {x : Str} {C : Addr}
end
end RowX
end PySem
namespace L2
open PySem PySem.Spec PyProof.Rows
section
variable {X : Cx} {C : Addr} {x : Str}
end
end L2
namespace Fx
open PySem PySem.Spec PyProof.Rows L2 Evl Lk
section
variable {X : Cx} {G : Gx} {x : Str} {C : Addr} {a : Expr} {w : WE} {p pos pos2 : Pos} {k : Nat}
end
end Fx

namespace Fx
open PySem PySem.Spec PyProof.Rows L2 Evl Lk

/-! ### text.split(sep) -/
theorem fzl_strs {K : PySem.W.Frag} {H : Hp} : ∀ (ys : List Str), FzL K H (ys.map V.str) (ys.map D.str)
  | [] => .nil
  | y :: ys => .cons (.str y) (fzl_strs ys)
section
variable {X : Cx} {G : Gx} {e : Expr} {w w1 w2 : WE}
end

/-! ### xs[lo:hi:k] of a list -/
section
variable {X : Cx} {G : Gx} {e : Expr} {w : WE} {lo hi : Option Expr}
end

/-! ### f-strings -/
section
variable {X : Cx} {G : Gx} {e : Expr} {w : WE}
end

/-! ### steps of walks -/
section
variable {w w1 w2 : WE} {wl wh : WO} {env : Env} {Q : Sl → Env → Prop} {ws : List WE} {acc : Str} {QJ : Str → Env → Prop}
end
end Fx

namespace Fx
open PySem PySem.Spec PyProof.Rows L2 Evl Lk

/-! ### another wish -/
section
variable {X : Cx} {G : Gx} {xw : Xv → Env → Prop} {T : Addr → Prop} {H : Hp} {σ : L2.St} {env : Env} {F : Nat → List Addr} {st : List Stmt} {w : WS}
end

/-! ### defs of values that may raise -/
section
variable {xw : Xv → Env → Prop} {W : WFnX} {wd : WAD}
end
section
variable {X : Cx} {G : Gx} {e : Expr} {es : List Expr} {wd : WAD} {x : Str} {k j : Nat} {tabs : List Addr} {p pos : Pos} {W : WFnX}
end
section
variable {P : Program} {w : World} {K : PySem.W.Frag} {mg : Str → Option Value} {base : Heap} {x : Str} {st : Stmt} {N ps : List Str} {k : Nat} {tabs : List Addr}
end

/-! ### a, b = a list -/
section
variable {X : Cx} {G : Gx} {pos : Pos}
end

/-! ### steps of walks -/
section
variable {w : WE} {wd : WAD} {env : Env} {Q : Sl → Env → Prop} {W : WFnX} {xw : Xv → Env → Prop} {ds : List D} {q : Env → Prop} {D0 : WEnds}
end
end Fx

namespace Fx
open PySem PySem.Spec PyProof.Rows L2 Evl Lk
/-! ### more steps of walks -/
section
variable {wa : WA} {env : Env} {QI : List D → Env → Prop} {ds es : List D} {p : List D → List D → Prop}
end
theorem x_isN0 {neg : Bool} {a : D} {Q : D → Prop} (h : isNon a = false) (k : Q (.bl neg)) : dIsN neg a .non Q := x_isN (by rw [h]; exact k)
theorem take_snoc {α : Type} {l : List α} {i : Nat} {x : α} (h : l[i]? = some x) : l.take (i + 1) = l.take i ++ [x] := by
  rw [List.take_succ, h]
  rfl
end Fx

namespace Fx
open PySem PySem.Spec PyProof.Rows L2 Evl Lk
/-! ### what the top has written of a class whose exceptions have a row -/
end Fx

/-! len(set(xs)), xs a list of texts, as many as there are (HandS.Strs has it for one) -/
namespace Fx.SS
open PySem PySem.Spec PyProof.Rows
/-- what was met so far, each once -/
def met {κ : Type} [BEq κ] (key : Nat → κ) : Nat → List κ
  | 0 => []
  | i + 1 => if (met key i).any (· == key i) then met key i else met key i ++ [key i]
theorem met_len {κ : Type} [BEq κ] (key : Nat → κ) : ∀ i, (met key i).length ≤ i
  | 0 => Nat.le_refl _
  | i + 1 => by
    have := met_len key i
    unfold met
    split
    · omega
    · rw [List.length_append, List.length_singleton]; omega
section
variable {prog : Program} {w : World} {A : Around} {R : Result → Shared → Prop} {I : Addr} {fp wr : List Addr} {G : Array GenState → Array GenState → Prop} {n : Nat} {P : Nat → Value → Prop} {St : Nat → Shared → Prop}
end
section
variable {prog : Program} {w : World} {A : Around} {E : Value → Shared → Prop} {s : Shared}
end
end Fx.SS

namespace Fx
open PySem PySem.Spec PyProof.Rows L2 Evl Lk
/-! ### x[a:c] = a list, x a slot that owns a list -/
section
variable {X : Cx} {G : Gx}
end
end Fx

namespace Fx
open PySem PySem.Spec PyProof.Rows L2 Evl Lk
/-! ### {k: v, ..}: an owned dict of values -/
def dK : Key → D
  | .inl i => .int i
  | .inr x => .str x
section
variable {X : Cx} {G : Gx} {pos : Pos}
theorem owl_fs {K : PySem.W.Frag} {T : Addr → Prop} {H : Hp} : ∀ {ds : List D} {vs : List V}, FzL K (hid T H) vs ds → OwL K T H (ds.map O.f) vs []
  | [], _, h => by cases h; exact .nil
  | d :: ds, _, h => by
    cases h with
    | cons a b => exact .cons (f1 := []) (.f a) (owl_fs b) (by simp)
/-- what no slot has keeps so -/
theorem att_far {σ : L2.St} {T0 T1 : Addr → Prop} {H0 H1 : Hp} {env e : Env} {F F1 : Nat → List Addr} {p : Addr} (a : Att G σ T0 H0 env F T1 H1 e F1) (hp : H0 p ≠ none) (n : ∀ k, IsS env k → p ∉ F k) : ∀ k, IsS e k → p ∉ F1 k := by
  rintro k ⟨s, hs⟩ hF
  cases s with
  | f d =>
    obtain ⟨v, _, z⟩ := a.re.slot k _ hs
    have z : Fz G.K (hid T1 H1) v d ∧ F1 k = [] := z
    rw [z.2] at hF
    cases hF
  | own o =>
    rcases a.own p ⟨k, ⟨o, hs⟩, hF⟩ with ⟨i, ⟨o', hi⟩, hF'⟩ | h
    · exact n i ⟨_, hi⟩ hF'
    · exact hp h
  | vw o =>
    obtain ⟨h1, h2⟩ := a.vw k o hs
    rw [h2] at hF
    exact n k ⟨_, h1⟩ hF
end
/-! ### d.get(k) of a dict value -/
def getD (ks : List Key) (ds : List D) (k : Key) : D := (((ks.zip ds).find? fun kv => decide (kv.1 = k)).map (·.2)).getD .non
def wGet (w1 w2 : WE) : WE := fun env Q => w1 env fun r e => ∃ ks ds, r = .f (.dic ks ds) ∧ w2 e fun r2 e2 => ∃ k : Key, r2 = .f (dK k) ∧ Q (.f (getD ks ds k)) e2
section
variable {X : Cx} {G : Gx} {o e : Expr} {w1 w2 : WE} {apos cpos : Pos}
theorem fz_dK {K : PySem.W.Frag} {H : Hp} {v : V} {k : Key} (h : Fz K H v (dK k)) : v = kV k := by
  cases k <;> cases h <;> rfl
theorem fz_get {K : PySem.W.Frag} {H : Hp} {k : Key} : ∀ {ks : List Key} {vs : List V} {ds : List D}, FzL K H vs ds → Fz K H ((valV (ks.zip vs) k).getD .non) (getD ks ds k)
  | [], _, _, _ => .non
  | _ :: _, _, _, .nil => .non
  | k0 :: ks, _, _, .cons (v := v) (vs := vs) (d := d) (ds := ds) a b => by
    by_cases h : k0 = k
    · have e1 : valV ((k0 :: ks).zip (v :: vs)) k = some v := valV_pos h
      have e2 : getD (k0 :: ks) (d :: ds) k = d := by simp [getD, List.find?_cons, h]
      rw [e1, e2]
      exact a
    · have e1 : valV ((k0 :: ks).zip (v :: vs)) k = valV (ks.zip vs) k := valV_neg h
      have e2 : getD (k0 :: ks) (d :: ds) k = getD ks ds k := by simp [getD, List.find?_cons, h]
      rw [e1, e2]
      exact fz_get b
theorem ge_get (hu : X.A.units + 65 < cLine) (ho : GE X G o w1) (he : GE X G e w2) (m : M1 X o "get" apos e cpos) : GE X G (.Call (.Attribute o "get" apos) [e] [] cpos) (wGet w1 w2) := by
  refine ⟨pe_imp (pe_dget1 (by omega) ho.pe he.pe m) fun σ H Q ⟨T, env, F, r, q⟩ => ⟨T, env, F, r, ho.mono _ _ _ (fun s e ⟨ks, ds, hs, q⟩ x T1 H1 F1 f1 a1 z1 => ?_) q⟩, fun env Q Q' i q => ho.mono _ _ _ (fun s e ⟨ks, ds, hs, q⟩ => ⟨ks, ds, hs, he.mono _ _ _ (fun s2 e2 ⟨k, h1, q⟩ => ⟨k, h1, i _ _ q⟩) q⟩) q⟩
  subst hs
  have fz1 : Fz G.K (hid T1 H1) x (.dic ks ds) := z1.rel.1
  cases fz1 with
  | dic l hl f =>
    rename_i a vs
    have isd : ∀ {H : Hp}, Rd H a (.dK (ks.zip vs)) → IsD H a := fun h => by
      rcases h with h | ⟨o, h⟩
      · exact .inl ⟨_, .inl h⟩
      · exact .inl ⟨_, .inr ⟨o, h⟩⟩
    have un : Rd H1 a (.dK (ks.zip vs)) := by
      rcases l with l | ⟨o, l⟩
      · exact .inl (hid_some l).1
      · exact .inr ⟨o, (hid_some l).1⟩
    refine ⟨a, rfl, isd un, T1, e, F1, a1.re, he.mono _ _ _ (fun s2 e2 ⟨k, h1, q⟩ y T2 H2 F2 f2 a2 z2 => ?_) q⟩
    subst h1
    have ey := fz_dK z2.rel.1
    subst ey
    have ex := a2.chg.hid a1.re.sub
    have un2 : Rd H2 a (.dK (ks.zip vs)) := by
      rcases l with l | ⟨o, l⟩
      · exact .inl (hid_some (ex a _ l)).1
      · exact .inr ⟨o, (hid_some (ex a _ l)).1⟩
    refine ⟨valV (ks.zip vs) k, .inl ⟨_, k, un2, rfl, rfl⟩, ?_⟩
    exact q _ T2 H2 F2 [] (a1.trans r.trk a2) (res_f (fz_get (f.ex ex)))
end
end Fx

/-! defs that are called while an exception is handled, the exception tracked -/
namespace L2H
open PySem PySem.Spec PyProof.Rows
end L2H
namespace L2
open PySem PySem.Spec PyProof.Rows L2H
section
variable {P : Program} {w : World} {K : PySem.W.Frag} {mg : Str → Option Value} {base : Heap} {N ps : List Str} {qual : Str} {scope : Scope} {f : Addr} {A : Around} {outer : List Env} {s s1 : Shared} {H : Hp} {E : XK} {us : List Value} {vs : List V}
end
section
variable {X : Cx} {x : Str} {p pos : Pos} {k j : Nat} {sp : Sp} {e : Expr} {es : List Expr} {ta : TA}
end
end L2

namespace Fx
open PySem PySem.Spec PyProof.Rows L2 L2H Evl Lk
/-! ### defs that are called in except suites -/
section
variable {P : Program} {w : World} {K : PySem.W.Frag} {mg : Str → Option Value} {base : Heap} {x q : Str} {st : Stmt} {N ps : List Str} {k : Nat} {tabs : List Addr}
end
section
variable {X : Cx} {G : Gx} {e : Expr} {es : List Expr} {wd : WAD} {x : Str} {k j : Nat} {tabs : List Addr} {p pos : Pos} {W : WFn}
end

/-! ### isinstance(x, (A, B, ..)) -/
section
variable {X : Cx} {G : Gx}
end
end Fx

namespace Fx
open PySem PySem.Spec PyProof.Rows L2 L2H Evl Lk
/-! ### text.split(sep), owned -/
section
variable {X : Cx} {G : Gx} {e : Expr} {w w1 w2 : WE}
/-! ### x[lo:hi], x a slot that owns a list -/
end
/-! ### steps of walks -/
section
variable {w1 w2 : WE} {wl wh : WO} {env : Env} {Q : Sl → Env → Prop} {w r : WPs} {QP : List (D × D) → Env → Prop}
theorem x_get (h : w1 env fun r e => ∃ ks ds, r = .f (.dic ks ds) ∧ w2 e fun r2 e2 => ∃ k : Key, r2 = .f (dK k) ∧ Q (.f (getD ks ds k)) e2) : wGet w1 w2 env Q := h
end
end Fx

namespace Fx
open PySem PySem.Spec PyProof.Rows L2 Evl Lk
/-! ### len(set(xs)), xs a list of texts, as many as there are -/
/-- how many different ones -/
def dst (xs : List Str) : Nat := (SS.met (fun i => xs.getD i Str.empty) xs.length).length
section
variable {X : Cx} {G : Gx} {w : WE}
end
end Fx

namespace Fx
open PySem PySem.Spec PyProof.Rows L2 Evl Lk
/-! ### comprehensions of two fors -/
theorem wipeE_get {e : Env} : ∀ {vs : List Nat} {i : Nat}, (wipeE e vs)[i]? = if i ∈ vs then (if i < e.length then some none else none) else e[i]?
  | [], i => by simp [wipeE]
  | v :: vs, i => by
    by_cases h : i = v
    · subst h
      rw [if_pos (List.mem_cons_self ..), wipeE]
      by_cases hl : i < e.length
      · rw [if_pos hl, List.getElem?_set_self (by rw [wipeE_len]; exact hl)]
      · rw [if_neg hl, List.getElem?_eq_none (by rw [List.length_set, wipeE_len]; omega)]
    · rw [wipeE, List.getElem?_set_ne (Ne.symm h), wipeE_get (vs := vs)]
      by_cases k : i ∈ vs
      · rw [if_pos k, if_pos (List.mem_cons_of_mem _ k)]
      · rw [if_neg k, if_neg (fun z => (List.mem_cons.mp z).elim h k)]
theorem wipeE_sub {e : Env} {v1 v2 : List Nat} {k : Nat} {s : Sl} (sub : ∀ i ∈ v1, i ∈ v2) (h : (wipeE e v2)[k]? = some (some s)) : (wipeE e v1)[k]? = some (some s) := by
  obtain ⟨h1, h2⟩ := wipeE_some h
  rw [wipeE_get, if_neg (fun z => h2 (sub k z)), h1]
theorem wipeE_both {e : Env} {v1 v2 : List Nat} (sub : ∀ i ∈ v1, i ∈ v2) : wipeE (wipeE e v1) v2 = wipeE e v2 := by
  refine List.ext_getElem? fun k => ?_
  rw [wipeE_get, wipeE_get (vs := v2), wipeE_len]
  by_cases h : k ∈ v2
  · rw [if_pos h, if_pos h]
  · rw [if_neg h, if_neg h, wipeE_get, if_neg (fun z => h (sub k z))]
section
variable {G : Gx} {T T1 T4 : Addr → Prop} {H H1 H2 H4 : Hp} {σ σ' σ2 : L2.St} {env e e4 : Env} {F F1 F4 : Nat → List Addr} {Dl : Addr} {acc : List D} {vacc : List V} {vs v1 v2 : List Nat}
end
section
variable {X : Cx} {G : Gx} {wi wi1 : WI} {tg tg1 : Tgt} {vs vs1 : List Nat} {t t1 : WT} {w : WE}
end
end Fx

namespace Fx
open PySem PySem.Spec PyProof.Rows L2 Evl Lk
/-! ### comprehensions of two fors: the rules -/
section
variable {X : Cx} {G : Gx} {elt tg iter tg1 iter1 c c1 : Expr} {scope : Scope} {own : List (Str × Nat)} {vs1 : List Nat} {pos : Pos} {wi wi1 : WI} {t t1 : Tgt} {w : WE} {wt wt1 : WT}
/-! the walk -/
end
end Fx

namespace Fx
open PySem PySem.Spec PyProof.Rows L2 Evl Lk
/-! ### xs.append(e), xs owned -/
def wApp (k : Nat) (wd : WAD) : WS := fun D env => (∃ s, env[k]? = some (some (.own (.lst s)))) ∧ wd env fun as e => ∃ d ds, as = [d] ∧ e[k]? = some (some (.own (.lst ds))) ∧ ds.length ≤ 100000 ∧ D.nx (e.set k (some (.own (.lst (ds ++ [d])))))
section
variable {X : Cx} {G : Gx} {wd : WAD}
theorem gs_append {o e : Expr} {k : Nat} {apos cpos pos : Pos} (ho : PE X o (tVar k)) (ha : GD X G [e] wd) (hs : swapsWith (.Call (.Attribute o "append" apos) [e] [] cpos) none pos.line X.env = pure false := by rfl)
    (hbase : attributeBase o "append" X.env (eval o X.env) = eval o X.env := by rfl)
    (hfew : ((backTo cpos (starEach [e] X.env)).all (fun x => !x.1) && (backToKw cpos (keywordEach [] X.env)).all (fun x => x.1.isSome) && decide (([e] : List Expr).length + ([] : List Keyword).length + (if ([] : List Keyword).isEmpty then 0 else 1) < 30)) = true := by rfl)
    (hline : (apos.endLine == cpos.line) = true := by rfl) (hst : starEach [e] X.env = (false, eval e X.env) :: starEach [] X.env := by rfl) (hpl : (backTo cpos (starEach [] X.env)).any (·.1) = false := by rfl) :
    GS X G (.Expr (.Call (.Attribute o "append" apos) [e] [] cpos) pos) (wApp k wd) := by
  refine ⟨ps_imp (ps_expr (pe_bm PySem.F.plainAttrs_list PySem.F.slot_list_append PySem.F.type_list_append mt_append ho ha.ga.pa hbase hfew hline hst hpl) hs) fun D σ H ⟨T, env, F, r, ⟨s0, h0⟩, q⟩ => ?_, fun D D' env l ⟨h0, q⟩ => ⟨h0, ha.mono _ _ _ (fun as e ⟨d, ds, h1, h2, h3, q⟩ => ⟨d, ds, h1, h2, h3, l.nx _ q⟩) q⟩⟩
  obtain ⟨p0, vs0, s1, hp0, _, _⟩ := own_lst r h0
  refine ⟨_, s1, ?_, T, env, F, r, ha.mono _ _ _ (fun as e ⟨d, ds, h1, h2, h3, q⟩ vs T1 H1 F1 Fa a z => ?_) q⟩
  · exact .inl ⟨rfl, vs0, SqL.of hp0⟩
  subst h1
  obtain ⟨v, v1, v2, _⟩ := z.val 0 (.f d) rfl
  have hl : vs.length = 1 := z.len
  obtain ⟨p, ws, s2, hp1, f1, upd_⟩ := own_lst a.re h2
  rw [s1] at s2
  cases s2
  have e1 : vs = [v] := by
    match vs, hl, v1 with
    | [x], _, v1 => cases v1; rfl
  have fz : Fz G.K (hid T1 H1) v d := v2.1
  have a2 := upd_ (ws ++ [v]) (ds ++ [d]) (f1.append (.cons fz .nil))
  exact ⟨p0, ws, v, rfl, e1, hp1, by rw [f1.length]; exact Nat.lt_of_le_of_lt h3 (by decide), q σ T1 _ F1 a2.re ((a.chg.hid r.sub).trans (a2.chg.hid a.re.sub))⟩
theorem x_app {k : Nat} {D : WEnds} {env : Env} {s : List Fx.D} (h0 : env[k]? = some (some (.own (.lst s)))) (h : wd env fun as e => ∃ d ds, as = [d] ∧ e[k]? = some (some (.own (.lst ds))) ∧ ds.length ≤ 100000 ∧ D.nx (e.set k (some (.own (.lst (ds ++ [d])))))) : wApp k wd D env := ⟨⟨s, h0⟩, h⟩
theorem x_appE {k : Nat} {q : Env → Prop} {env : Env} {d : Fx.D} {ds : List Fx.D} (h0 : env[k]? = some (some (.own (.lst ds)))) (hl : ds.length ≤ 100000) (h : q (env.set k (some (.own (.lst (ds ++ [d])))))) : ∃ d' ds', [d] = [d'] ∧ env[k]? = some (some (.own (.lst ds'))) ∧ ds'.length ≤ 100000 ∧ q (env.set k (some (.own (.lst (ds' ++ [d']))))) := ⟨d, ds, rfl, h0, hl, h⟩
end
end Fx

namespace Fx
open PySem PySem.Spec PyProof.Rows L2 Evl Lk
/-! ### x op e, x a name whatever it holds: read again behind e -/
def wBinV (o : Op2) (i : Nat) (w2 : WE) : WE := fun env Q => (∃ s, env[i]? = some (some s)) ∧ w2 env fun r2 e2 => ∃ s d1 d2, e2[i]? = some (some s) ∧ s.cd = some d1 ∧ r2.cd = some d2 ∧ o d1 d2 fun d => Q (.f d) e2
section
variable {X : Cx} {G : Gx} {o : Op2} {w2 : WE} {i : Nat} {a b : Expr} {pos : Pos}
theorem binVW (mb : MonoE w2) (mo : MonoO o) {σ : L2.St} {H : Hp} {Q : VK} (h : tW G (wBinV o i w2) σ H Q) : tOp (rO G o) (tVar i) (tW G w2) σ H Q := by
  obtain ⟨T, env, F, r, ⟨s0, h0⟩, q⟩ := h
  obtain ⟨v, hv, _⟩ := r.slot i s0 h0
  refine ⟨v, hv, T, env, F, r, mb env _ _ (fun r2 e2 ⟨s, d1, d2, h1, c1, c2, q⟩ v2 T2 H2 F2 f2 a2 z2 => ?_) q⟩
  obtain ⟨v', hv', z1⟩ := a2.re.slot i s h1
  rw [hv] at hv'
  cases hv'
  refine ⟨T2, d1, d2, a2.re.trk, z1.cz c1, z2.rel.cz c2, mo _ _ _ _ (fun d q v H3 e3 fz => ?_) q⟩
  exact q v T2 H3 F2 [] (a2.trans r.trk (Att.ex a2.re e3)) ⟨⟨fz, rfl⟩, nofun, nofun⟩
theorem monoBinV (mb : MonoE w2) (mo : MonoO o) : MonoE (wBinV o i w2) := fun env Q Q' j ⟨h, q⟩ => ⟨h, mb env _ _ (fun r2 e2 ⟨s, d1, d2, h1, c1, c2, q⟩ => ⟨s, d1, d2, h1, c1, c2, mo _ _ _ _ (fun d q => j _ _ q) q⟩) q⟩
theorem gt_cmpV {op : CmpOp} (ho : OpX X G (compareOp op) o) (ha : PE X a (tVar i)) (hb : GE X G b w2) (hm : behindInMarks op b = false) : GT X G (.Compare a [op] [b] pos) (wTB (wBinV o i w2)) := by
  have m := monoBinV (i := i) hb.mono ho.mono
  refine ⟨pt_imp (pt_cmpR ho.ok ha hb.pe hm) fun σ H Q ⟨T, env, F, r, q⟩ => ?_, fun env Q Q' i q => m env _ _ (fun s e ⟨b, hb, q⟩ => ⟨b, hb, i _ _ q⟩) q⟩
  refine binVW hb.mono ho.mono ⟨T, env, F, r, m env _ _ (fun s e ⟨b, hb, q⟩ v T' H' F' fr a z => ?_) q⟩
  subst hb
  obtain ⟨h1, _⟩ := z.rel
  cases h1
  exact ⟨_, rfl, q T' H' F' a⟩
theorem ge_ixV (ho : IxX X G o) (ha : PE X a (tVar i)) (hb : GE X G b w2) (hs : PlainIx b) : GE X G (.Subscript a b pos) (wBinV o i w2) :=
  ⟨pe_imp (pe_ix ho.ok ha hb.pe hs) fun _ _ _ h => binVW hb.mono ho.mono h, monoBinV hb.mono ho.mono⟩
theorem x_binV {env : Env} {Q : Sl → Env → Prop} {s : Sl} (h0 : env[i]? = some (some s)) (h : w2 env fun r2 e2 => ∃ s d1 d2, e2[i]? = some (some s) ∧ s.cd = some d1 ∧ r2.cd = some d2 ∧ o d1 d2 fun d => Q (.f d) e2) : wBinV o i w2 env Q := ⟨⟨s, h0⟩, h⟩
end
end Fx

namespace Fx
open PySem PySem.Spec PyProof.Rows L2 Evl Lk
/-! ### is True, is False, asked of a truth value -/
theorem isnB_eq (a b : Bool) : compareOp .IsNot (.bool a) (.bool b) = pure (.bool (!(a == b))) := by
  cases a <;> cases b <;> first | rfl | simp [compareOp, isSame]
def dIsB (neg : Bool) : Op2 := fun a b Q => ∃ x c, a = .bl x ∧ b = .bl c ∧ Q (.bl (if neg = true then !(x == c) else x == c))
section
variable {X : Cx} {G : Gx}
theorem opx_notB : OpX X G (compareOp .IsNot) (dIsB true) := by
  refine ⟨fun pins s σ H x y v u Q I rx ry ⟨T, d1, d2, t, c1, c2, x', c, h1, h2, q⟩ => ?_, fun a b Q Q' i ⟨x, c, h1, h2, q⟩ => ⟨x, c, h1, h2, i _ q⟩⟩
  subst h1 h2
  cases c1
  cases c2
  cases rx
  cases ry
  rw [isnB_eq]
  exact wpAny_pure (fin_bl I (q _ H (Ex.refl H) (.bl _)) rfl)
theorem x_isB {neg x c : Bool} {Q : D → Prop} (h : Q (.bl (if neg = true then !(x == c) else x == c))) : dIsB neg (.bl x) (.bl c) Q := ⟨x, c, rfl, rfl, h⟩
end
/-! ### xs.pop(e), xs owned -/
def wPopD (k : Nat) (wd : WAD) : WE := fun env Q => (∃ s, env[k]? = some (some (.own (.lst s)))) ∧ wd env fun as e => ∃ (i : Int) (ds : List D) (d : D), as = [.int i] ∧ e[k]? = some (some (.own (.lst ds))) ∧ 0 ≤ i ∧ ds.length ≤ 100000 ∧ ds[i.toNat]? = some d ∧ Q (.f d) (e.set k (some (.own (.lst (ds.eraseIdx i.toNat)))))
section
variable {X : Cx} {G : Gx} {wd : WAD}
theorem ge_popD {o e : Expr} {k : Nat} {apos cpos : Pos} (ho : PE X o (tVar k)) (ha : GD X G [e] wd)
    (hbase : attributeBase o "pop" X.env (eval o X.env) = eval o X.env := by rfl)
    (hfew : ((backTo cpos (starEach [e] X.env)).all (fun x => !x.1) && (backToKw cpos (keywordEach [] X.env)).all (fun x => x.1.isSome) && decide (([e] : List Expr).length + ([] : List Keyword).length + (if ([] : List Keyword).isEmpty then 0 else 1) < 30)) = true := by rfl)
    (hline : (apos.endLine == cpos.line) = true := by rfl) (hst : starEach [e] X.env = (false, eval e X.env) :: starEach [] X.env := by rfl) (hpl : (backTo cpos (starEach [] X.env)).any (·.1) = false := by rfl) :
    GE X G (.Call (.Attribute o "pop" apos) [e] [] cpos) (wPopD k wd) := by
  refine ⟨pe_imp (pe_bm PySem.F.plainAttrs_list PySem.F.slot_list_pop PySem.F.type_list_pop mt_popAt ho ha.ga.pa hbase hfew hline hst hpl) fun σ H Q ⟨T, env, F, r, ⟨s0, h0⟩, q⟩ => ?_, fun env Q Q' ii ⟨h0, q⟩ => ⟨h0, ha.mono _ _ _ (fun as e ⟨i, ds, d, h1, h2, h3, h4, h5, q⟩ => ⟨i, ds, d, h1, h2, h3, h4, h5, ii _ _ q⟩) q⟩⟩
  obtain ⟨p0, vs0, s1, hp0, _, _⟩ := own_lst r h0
  refine ⟨_, s1, .inl ⟨rfl, vs0, SqL.of hp0⟩, T, env, F, r, ha.mono _ _ _ (fun as e ⟨i, ds, d, h1, h2, h3, h4, h5, q⟩ vs T1 H1 F1 Fa a z => ?_) q⟩
  subst h1
  obtain ⟨v, v1, v2, _⟩ := z.val 0 (.f (.int i)) rfl
  have hl : vs.length = 1 := z.len
  obtain ⟨p, ws, s2, hp1, f1, upd_⟩ := own_lst a.re h2
  rw [s1] at s2
  cases s2
  have e1 : vs = [v] := by
    match vs, hl, v1 with
    | [x], _, v1 => cases v1; rfl
  have fz : Fz G.K (hid T1 H1) v (.int i) := v2.1
  cases fz
  have hj : i.toNat < ws.length := by rw [f1.length]; exact (List.getElem?_eq_some_iff.mp h5).1
  have a2 := upd_ (ws.eraseIdx i.toNat) (ds.eraseIdx i.toNat) (f1.erase _)
  have fd := f1.get (List.getElem?_eq_getElem hj) h5
  have hlen : ws.length ≤ 100000 := by rw [f1.length]; exact h4
  refine ⟨p0, ws, i, i.toNat, ws[i.toNat], rfl, e1, hp1, by omega, by omega, ?_, List.getElem?_eq_getElem hj, q _ T1 _ F1 [] (a.trans r.trk a2) (res_f (fd.ex (a2.chg.hid a.re.sub)))⟩
  unfold seqIndex?
  simp
  omega
theorem x_popD {k : Nat} {Q : Sl → Env → Prop} {env : Env} {s : List D} (h0 : env[k]? = some (some (.own (.lst s)))) (h : wd env fun as e => ∃ (i : Int) (ds : List D) (d : D), as = [.int i] ∧ e[k]? = some (some (.own (.lst ds))) ∧ 0 ≤ i ∧ ds.length ≤ 100000 ∧ ds[i.toNat]? = some d ∧ Q (.f d) (e.set k (some (.own (.lst (ds.eraseIdx i.toNat)))))) : wPopD k wd env Q := ⟨⟨s, h0⟩, h⟩
end
/-! ### x + e, lists, x a name, the sum owned -/
def rCat (X : Cx) : V → V → Hp → VK → Prop := fun x y H Q => ∃ a b xs ys, x = .ref a ∧ y = .ref b ∧ SqL X.K H a xs ∧ SqL X.K H b ys ∧ xs.length + ys.length ≤ sizeLine ∧ ∀ p, H p = none → Q (.ref p) (upd H p (.lst (xs ++ ys)))
theorem op_cat {X : Cx} : OpR X (binaryOp .Add) (rCat X) := by
  intro pins s σ H x y v u Q I rx ry ⟨a, b, xs, ys, h1, h2, l1, l2, hz, q⟩
  subst h1 h2
  cases rx
  cases ry
  exact cat_any I l1 l2 hz q
def wCatV (i : Nat) (w2 : WE) : WE := fun env Q => (∃ s, env[i]? = some (some s)) ∧ w2 env fun r2 e2 => ∃ s a b, e2[i]? = some (some s) ∧ s.cd = some (.lst a) ∧ r2.cd = some (.lst b) ∧ a.length + b.length ≤ sizeLine ∧ Q (.own (.lst (a ++ b))) e2
section
variable {X : Cx} {G : Gx} {w2 : WE} {i : Nat} {a b : Expr} {pos : Pos}
theorem ge_catV (ha : PE X a (tVar i)) (hb : GE X G b w2) (hK : X.K = G.K := by rfl) : GE X G (.BinOp a .Add b pos) (wCatV i w2) := by
  refine ⟨pe_imp (pe_op op_cat ha hb.pe) fun σ H Q ⟨T, env, F, r, ⟨s0, h0⟩, q⟩ => ?_, fun env Q Q' j ⟨h0, q⟩ => ⟨h0, hb.mono _ _ _ (fun r2 e2 ⟨s, a, b, h1, h2, h3, h4, q⟩ => ⟨s, a, b, h1, h2, h3, h4, j _ _ q⟩) q⟩⟩
  obtain ⟨v, hv, _⟩ := r.slot i s0 h0
  refine ⟨v, hv, T, env, F, r, hb.mono _ _ _ (fun r2 e2 ⟨s, xs, ys, h1, c1, c2, hz, q⟩ v2 T2 H2 F2 f2 a2 z2 => ?_) q⟩
  obtain ⟨v', hv', z1⟩ := a2.re.slot i s h1
  rw [hv] at hv'
  cases hv'
  obtain ⟨p1, vs, rfl, l1, f1⟩ := z1.cz c1
  obtain ⟨p2, ws, rfl, l2, f3⟩ := z2.rel.cz c2
  refine ⟨p1, p2, vs, ws, rfl, rfl, by rw [hK]; exact l1, by rw [hK]; exact l2, by rw [f1.length, f3.length]; exact hz, fun p np => ?_⟩
  exact q _ _ _ F2 [p] (a2.trans r.trk (att_new a2.re np)) (res_trans r.trk a2 (own_new a2.re np (.lst (.inr rfl) upd_same ((f1.append f3).ex (hid_new np)))))
theorem x_catV {env : Env} {Q : Sl → Env → Prop} {s : Sl} (h0 : env[i]? = some (some s)) (h : w2 env fun r2 e2 => ∃ s a b, e2[i]? = some (some s) ∧ s.cd = some (.lst a) ∧ r2.cd = some (.lst b) ∧ a.length + b.length ≤ sizeLine ∧ Q (.own (.lst (a ++ b))) e2) : wCatV i w2 env Q := ⟨⟨s, h0⟩, h⟩
/-! ### x op e, as a value; x[lo:hi] of a value, the part owned -/
def wSlN (w : WE) (lo hi : WO) : WE := fun env Q => w env fun r e => ∃ ds, r = .f (.lst ds) ∧ lo e fun l e2 => hi e2 fun u e3 => Q (.own (.lst (cutD ds l u))) e3
theorem ge_slN {e : Expr} {w : WE} {lo hi : Option Expr} {wl wh : WO} {p2 : Pos} (he : GE X G e w) (hl : GO X G lo wl) (hu : GO X G hi wh) (hK : X.K = G.K := by rfl) : GE X G (.Subscript e (.Slice lo hi none p2) pos) (wSlN w wl wh) := by
  refine ⟨pe_imp (pe_slice (r := fun x lo hi H Q => ∃ a vs, x = .ref a ∧ SqL X.K H a vs ∧ ∀ p, H p = none → Q (.ref p) (upd H p (.lst (cutV vs lo hi)))) (fun pins s σ H x v vl vu lo hi sl Q I rx hs pl pu h => sl_list pins s σ H x v vl vu lo hi sl Q I rx hs pl pu h) he.pe hl.po hu.po) fun σ H Q ⟨T, env, F, r, q⟩ => ⟨T, env, F, r, he.mono _ _ _ (fun s e ⟨ds, hs, q⟩ x T1 H1 F1 f1 a1 z1 => ?_) q⟩, fun env Q Q' i q => he.mono _ _ _ (fun s e ⟨ds, hs, q⟩ => ⟨ds, hs, hl.mono _ _ _ (fun l e2 q => hu.mono _ _ _ (fun u e3 q => i _ _ q) q) q⟩) q⟩
  subst hs
  refine ⟨T1, e, F1, a1.re, hl.mono _ _ _ (fun l e2 q T2 H2 F2 a2 => ⟨T2, e2, F2, a2.re, hu.mono _ _ _ (fun u e3 q T3 H3 F3 a3 => ?_) q⟩) q⟩
  have a13 := (a1.trans r.trk a2).trans r.trk a3
  obtain ⟨p1, vs, rfl, l1, f⟩ := Cz.of (Fz.att a2.re a3 (Fz.att a1.re a2 z1.rel.1))
  refine ⟨p1, vs, rfl, by rw [hK]; exact l1, fun p np => ?_⟩
  exact q _ _ _ F3 [p] (a13.trans r.trk (att_new a3.re np)) (res_trans r.trk a13 (own_new a3.re np (.lst (.inr rfl) upd_same ((f.cut l u).ex (hid_new np)))))
theorem x_slN2 {w : WE} {lo hi : WO} {env : Env} {Q : Sl → Env → Prop} (h : w env fun r e => ∃ ds, r = .f (.lst ds) ∧ lo e fun l e2 => hi e2 fun u e3 => Q (.own (.lst (cutD ds l u))) e3) : wSlN w lo hi env Q := h
end
end Fx

namespace Fx
open PySem PySem.Spec PyProof.Rows L2 Evl Lk
theorem x_tplL {ds : List D} {Q : D → Prop} (h : Q (.tup ds)) : cTuple [.lst ds] Q := h
end Fx

namespace Fx
open PySem PySem.Spec PyProof.Rows L2 Evl Lk
/-! ### sets whose order of walking is known: what L2 has for whole numbers, for any kind of key -/
namespace SO
variable {P : Program} {w : World} {κ : Type} [DecidableEq κ] {knd : KeyKind P w κ}
def SetS (knd : KeyKind P w κ) (h : Heap) (a : Addr) (S : κ → Bool) (n : Nat) : Prop := ∃ (o : Obj) (es : Array (Int × Value)) (ep : Nat) (t : SetTable), h.get? a = some o ∧ o.ExactSet ∧ o.data = .set es ep t ∧ ElemsOf knd es.toList ∧ (∀ k, S k = true ↔ ∃ e, e ∈ es.toList ∧ knd.is k e.snd = true) ∧
  es.size < scanBound ∧ t.fits es.size = true ∧ es.size = n ∧ Ris t.place.toList ∧ (w.params.followText "set-order" = true ∨ t.led = true)
theorem SetS.setOf {h : Heap} {a : Addr} {S : κ → Bool} {n : Nat} : SetS knd h a S n → Heap.SetOf knd h a S n
  | ⟨o, es, ep, t, h1, h2, h3, h4, h5, h6, h7, h8, _, _⟩ => ⟨o, es, ep, t, h1, h2, h3, h4, h5, h6, h7, h8⟩
theorem add_tail {A : Around} {E : Value → Shared → Prop} {s : Shared} {a : Addr} {g : Bool → Sem Unit} (hg : ∀ (b : Bool) (s₁ : Shared) (Q' : Unit → Shared → Prop), Q' () s₁ → wpAny (model P w) A (g b) Q' E s₁)
    {o : Obj} {es : Array (Int × Value)} {ep : Nat} {t : SetTable} (ho : s.heap.get? a = some o) (hx : o.ExactSet) (hd : o.data = .set es ep t)
    {es1 : Array (Int × Value)} {t2 : SetTable} {S' : κ → Bool} (he : ElemsOf knd es1.toList) (hS : ∀ k, S' k = true ↔ ∃ e, e ∈ es1.toList ∧ knd.is k e.snd = true) (hb : es1.size < scanBound) (hf : t2.fits es1.size = true) (hr : Ris t2.place.toList) (hl : w.params.followText "set-order" = true ∨ t2.led = true)
    {wd : Bool} {R : Option Bool → Shared → Prop} (q : ∀ h', Heap.SameBut a s.heap h' → SetS knd h' a S' es1.size → R (some true) { s with heap := h' }) :
    wpAny (model P w) A (do
      storeSet a es1 t2
      if (!wd && t2.tooFull) = true then do
        g (relayAll t2 es1 (SetTable.grown es1.size)).snd.snd
        storeSet a (relayAll t2 es1 (SetTable.grown es1.size)).fst (relayAll t2 es1 (SetTable.grown es1.size)).snd.fst
        pure (some true)
      else pure (some true)) R E s := by
  have st := store_at (es' := es1) (t' := t2) ho hd
  refine wpAny_bind (wpAny_storeSet_of ho hd ?_ (fits_of_scanBound hb))
  by_cases hc : (!wd && t2.tooFull) = true
  · rw [if_pos hc]
    refine wpAny_bind (hg _ _ _ ?_)
    have pm := relayAll_perm t2 es1 (SetTable.grown es1.size)
    have ff := relayAll_fits t2 es1 (SetTable.grown es1.size)
    have rr := relayAll_ris t2 es1 (SetTable.grown es1.size)
    have ll := relayAll_led t2 es1 (SetTable.grown es1.size)
    generalize relayAll t2 es1 (SetTable.grown es1.size) = r at pm ff rr ll
    have hz : r.1.size = es1.size := by
      have := pm.length_eq
      simpa using this
    refine wpAny_bind (wpAny_storeSet_of (s := { s with heap := s.heap.update a (Obj.putSet es1 t2) }) st rfl ?_ (fits_of_scanBound (by rw [hz]; exact hb)))
    have st2 := store_at (es' := r.1) (t' := r.2.1) st rfl
    refine wpAny_pure (q _ (Heap.SameBut.trans (Heap.SameBut.update s.heap a (Obj.putSet es1 t2)) (Heap.SameBut.update _ a (Obj.putSet r.1 r.2.1))) ⟨_, r.1, _, r.2.1, st2, hx, rfl, he.perm pm, fun k => (hS k).trans ⟨fun ⟨e, h1, h2⟩ => ⟨e, pm.mem_iff.mpr h1, h2⟩, fun ⟨e, h1, h2⟩ => ⟨e, pm.mem_iff.mp h1, h2⟩⟩, by rw [hz]; exact hb, ff, hz, rr, by rw [ll]; exact hl⟩)
  · rw [if_neg hc]
    exact wpAny_pure (q _ (Heap.SameBut.update s.heap a (Obj.putSet es1 t2)) ⟨_, es1, _, t2, st, hx, rfl, he, hS, hb, hf, rfl, hr, hl⟩)
theorem add_hashed {A : Around} {E : Value → Shared → Prop} {s : Shared} {a : Addr} {S : κ → Bool} {n : Nat} {k : κ} {x : Value} {Q : Bool → Shared → Prop} (hk : knd.is k x = true) (hsx : x.scannable = true) (H : SetS knd s.heap a S n) (hb : n + 1 < scanBound)
    (q : ∀ h', Heap.SameBut a s.heap h' → SetS knd h' a (fun k' => S k' || decide (k' = k)) (if S k = true then n else n + 1) → Q (!S k) { s with heap := h' }) : wpAny (model P w) A (setAddHashed a x (knd.hash k)) Q E s := by
  obtain ⟨o, es, ep, t, ho, hx, hd, he, hS, hb2, hf, hn, hr, hl⟩ := H
  subst hn
  show wpAny _ _ (holding [x] (setAddHashedIn a x (knd.hash k) 100000)) Q E s
  refine wpAny_holding ?_
  rw [setAddHashedIn.eq_def]
  dsimp only
  refine wpAny_bind (wpAny_setState_of ho hd hf ?_)
  dsimp only
  rw [if_pos (byScan_of hsx hb2 he)]
  refine wpAny_bind ?_
  unfold setAddByScan
  refine wpAny_bind (wpAny_rule ?_)
  refine wpAny_bind (wpAny_setScan_of hk ho hd hf he ?_)
  cases hfi : List.findIdx? (fun e => knd.is k e.snd) es.toList with
  | some j =>
    dsimp only
    have hSk : S k = true := by
      obtain ⟨hj, h1, _⟩ := List.findIdx?_eq_some_iff_getElem.mp hfi
      exact (hS k).mpr ⟨_, List.getElem_mem hj, h1⟩
    refine wpAny_pure ?_
    dsimp only
    refine wpAny_pure ?_
    have q := q s.heap (Heap.SameBut.refl _ _)
    rw [if_pos hSk, hSk] at q
    refine q ⟨o, es, ep, t, ho, hx, hd, he, fun k' => ?_, hb2, hf, rfl, hr, hl⟩
    rw [← hS k', Bool.or_eq_true, decide_eq_true_iff]
    exact ⟨fun h => h.elim id fun e => by rw [e]; exact hSk, .inl⟩
  | none =>
    dsimp only
    have hSk : S k = false := by
      cases e : S k with
      | false => rfl
      | true =>
        obtain ⟨y, h1, h2⟩ := (hS k).mp e
        have := List.findIdx?_eq_none_iff.mp hfi y h1
        rw [h2] at this
        cases this
    have pm := layNew_perm t es (knd.hash k) x
    have ff := layNew_fits t es (knd.hash k) x
    have rr := layNew_ris t es (knd.hash k) x hr
    have ll := layNew_led t es (knd.hash k) x
    generalize layNew t es (knd.hash k) x = r at pm ff rr ll
    obtain ⟨es1, t1, wd, gv⟩ := r
    dsimp only at pm ff rr ll ⊢
    have e1 : ElemsOf knd es1.toList := (he.push hk hsx).perm (by rw [Array.toList_push] at pm; exact pm)
    have m1 := mem_push_iff hk hS (l' := es1.toList) (by rw [Array.toList_push] at pm; exact pm)
    have z1 : es1.size = es.size + 1 := by
      have := pm.length_eq
      simpa using this
    have q1 : ∀ h', Heap.SameBut a s.heap h' → SetS knd h' a (fun k' => S k' || decide (k' = k)) es1.size → Q true { s with heap := h' } := fun h' g1 g2 => by
      have q := q h' g1
      rw [hSk, if_neg Bool.false_ne_true, ← z1] at q
      exact q g2
    have hb1 : es1.size < scanBound := by rw [z1]; exact hb
    refine wpAny_bind ?_
    cases gv
    all_goals first | refine wpAny_pure ?_ | refine wpAny_rule ?_
    all_goals
      have gw : ∀ b : Bool, (if b = true then t1 else { t1 with plain := false }).fits es1.size = true ∧ Ris (if b = true then t1 else { t1 with plain := false }).place.toList ∧ (w.params.followText "set-order" = true ∨ (if b = true then t1 else { t1 with plain := false }).led = true) := fun b => by
        cases b with
        | true => exact ⟨ff, rr, by rw [if_pos rfl, ll]; exact hl⟩
        | false => exact ⟨SetTable.fits_plain_off ff, rr, by rw [if_neg Bool.false_ne_true]; exact hl.imp id fun h => ll.trans h⟩
      by_cases hp : t1.plain = true
      · rw [if_pos hp]
        refine wpAny_bind ?_
        rw [hashByValue_scannable 8 hsx]
        refine wpAny_pure ?_
        obtain ⟨g1, g2, g3⟩ := gw (plainKind x)
        exact add_tail (fun b s₁ Q' h => by cases b <;> first | exact wpAny_pure h | exact wpAny_rule h) ho hx hd e1 m1 hb1 g1 g2 g3 fun h' a1 a2 => wpAny_pure (q1 h' a1 a2)
      · rw [if_neg hp]
        refine wpAny_bind ?_
        refine wpAny_pure ?_
        obtain ⟨g1, g2, g3⟩ := gw true
        exact add_tail (fun b s₁ Q' h => by cases b <;> first | exact wpAny_pure h | exact wpAny_rule h) ho hx hd e1 m1 hb1 g1 g2 g3 fun h' a1 a2 => wpAny_pure (q1 h' a1 a2)
end SO
end Fx

namespace Fx
open PySem PySem.Spec PyProof.Rows L2
namespace SO
theorem code_set_led1 {P : Program} {w : World} {A : Around} {E : Value → Shared → Prop} {s : Shared} (a : Value) {Q₁ : Value → Shared → Prop}
    (h : Q₁ (.ref s.heap.objs.size) { s with heap := s.heap.push { cls := .type "set", data := .set #[] 0 (.fresh 0 0 (!w.params.followText "set-order")) } }) :
    codeAny (model P w) A (.call (.builtin "set.__new__") ⟨[.type "set", a], []⟩) (wants Q₁ E) s := by
  refine codeAny_call_builtin_at (plainId_quiet PySem.F.plain_set_new _) PySem.F.entry_set_new (wpAny_of_eq (PySem.F.newCall_set_1 a) ?_)
  rw [Around.under_plainId PySem.F.plain_set_new _]
  show wpAny _ A.in1 (Builtin.Frozenset.newClass "set" ⟨[.type "set", a], []⟩ >>= fun x => newSet x.fst >>= fun y => ret y) _ _ s
  refine wpAny_bind ?_
  unfold Builtin.Frozenset.newClass
  dsimp only
  refine wpAny_bind (wpAny_of_eq (show isType (.type "set") = pure true from rfl) ?_)
  rw [if_neg (by decide)]
  refine wpAny_bind (wpAny_of_eq sub_set_self ?_)
  rw [if_neg (by decide)]
  refine wpAny_pure ?_
  refine wpAny_bind ?_
  unfold newSet
  refine wpAny_bind (wpAny_byText ?_)
  dsimp only
  unfold newObj
  dsimp only
  rw [if_neg (by decide)]
  unfold newObjAsIs
  refine wpAny_bind (wpAny_alloc ?_)
  dsimp only
  refine wpAny_pure ?_
  exact wpAny_pure h
theorem setS_congr {P : Program} {w : World} {κ : Type} [DecidableEq κ] {knd : KeyKind P w κ} {h : Heap} {a : Addr} {S S' : κ → Bool} {n n' : Nat} (H : SetS knd h a S n) (e : ∀ k, S k = S' k) (e2 : n = n') : SetS knd h a S' n' := by
  obtain ⟨o, es, ep, t, h1, h2, h3, h4, h5, h6⟩ := H
  subst e2
  exact ⟨o, es, ep, t, h1, h2, h3, h4, fun k => by rw [← e k]; exact h5 k, h6⟩
theorem setS_fresh {P : Program} {w : World} {κ : Type} [DecidableEq κ] {knd : KeyKind P w κ} {h : Heap} {a : Addr} {led : Bool} (ho : h.get? a = some { cls := .type "set", data := .set #[] 0 (.fresh 0 0 led) }) (hl : led = (!w.params.followText "set-order")) : SetS knd h a (fun _ => false) 0 := by
  refine ⟨_, _, _, _, ho, ?_, rfl, ?_, ?_, by unfold scanBound; decide, ?_, rfl, ?_, ?_⟩
  · exact ⟨rfl, rfl, rfl⟩
  · intro e he; simp at he
  · exact fun k => ⟨nofun, fun ⟨e, he, _⟩ => by simp at he⟩
  · first | rfl | decide
  · exact List.Pairwise.nil
  · rw [hl]
    cases w.params.followText "set-order" with
    | true => exact .inl rfl
    | false => exact .inr rfl
end SO
end Fx
namespace Fx.SS
open PySem PySem.Spec PyProof.Rows
section
variable {prog : Program} {w : World} {A : Around} {R : Result → Shared → Prop} {I : Addr} {fp wr : List Addr} {G : Array GenState → Array GenState → Prop} {n : Nat} {P : Nat → Value → Prop} {St : Nat → Shared → Prop}
theorem loop_ord (W : WalksS prog w A.in1 I fp wr G n P St) (S : Addr) (hSf : S ∉ fp) (key : Nat → Str) (hb : n + 1 < scanBound) (hval : ∀ i v, P i v → ∃ t, v = .str (key i) t) :
    ∀ (k i : Nat) (s : Shared), n - i = k → i ≤ n → St i s → SO.SetS (PySem.strKind prog w) s.heap S (fun q => (met key i).any (· == q)) (met key i).length →
      (∀ s', Moved (S :: wr) G s s' → SO.SetS (PySem.strKind prog w) s'.heap S (fun q => (met key n).any (· == q)) (met key n).length → R (.ok (.ret .none)) s') →
      codeAny (model prog w) A (.builtin "set.update.loop" ⟨[.ref S, .ref I], []⟩) R s := by
  have out : S ∉ wr := fun h => hSf (W.sub _ h)
  have old : ∀ {b}, b ∈ wr → b ∈ S :: wr := fun h => List.mem_cons_of_mem _ h
  have moves : ∀ {s s' : Shared} {S' : Str → Bool} {m : Nat}, Moved wr G s s' → SO.SetS (PySem.strKind prog w) s.heap S S' m → SO.SetS (PySem.strKind prog w) s'.heap S S' m := fun hm ⟨o, es, ep, t, ho, rest⟩ => ⟨o, es, ep, t, hm.heap S _ out ho, rest⟩
  intro k
  induction k with
  | zero =>
    intro i s hk hi st hS q
    obtain rfl : i = n := by omega
    refine codeAny_builtin PyProof.Rows.F.entry_set_update_loop ?_
    rw [Around.under_plainId PyProof.Rows.F.plain_set_update_loop _]
    exact wpAny_bind (W.done s _ _ st fun s' hm => wpAny_pure (q s' (hm.mono fun b hb => old hb) (moves hm hS)))
  | succ k ih =>
    intro i s hk hi st hS q
    have lt : i < n := by omega
    have room : (met key i).length + 1 < scanBound := by have := met_len key i; omega
    refine codeAny_builtin PyProof.Rows.F.entry_set_update_loop ?_
    rw [Around.under_plainId PyProof.Rows.F.plain_set_update_loop _]
    refine wpAny_bind (W.item i s _ _ lt st fun v s' hP st' hm => ?_)
    obtain ⟨t, rfl⟩ := hval i v hP
    show wpAny _ A.in1 (holding [Value.str (key i) t] (setAdd S (.str (key i) t)) >>= _) _ _ s'
    unfold setAdd
    refine wpAny_bind (wpAny_holding (wpAny_holding (wpAny_bind ((PySem.strKind prog w).pyHash (k := key i) (strKind_is _ _ _ _) ?_))))
    have hS1 := moves hm hS
    refine SO.add_hashed (knd := PySem.strKind prog w) (s := { s' with toks := s'.toks + 1 }) (strKind_is _ _ _ _) rfl hS1 room fun h' same hS2 => ?_
    have hS3 : SO.SetS (PySem.strKind prog w) h' S (fun q => (met key (i + 1)).any (· == q)) (met key (i + 1)).length := by
      refine SO.setS_congr hS2 (fun q => ?_) ?_
      · show _ = (if (met key i).any (· == key i) then met key i else met key i ++ [key i]).any (· == q)
        split
        · rename_i c
          by_cases e : q = key i
          · rw [e, c]; rfl
          · simp [e]
        · rw [List.any_append]
          congr 1
          by_cases e : q = key i
          · subst e; simp
          · have e' : (key i == q) = false := beq_eq_false_iff_ne.mpr fun h => e h.symm
            simp [e, e']
      · show _ = (if (met key i).any (· == key i) then met key i else met key i ++ [key i]).length
        split
        · rfl
        · rw [List.length_append, List.length_singleton]
    refine wpAny_pure ⟨plainId_quiet PyProof.Rows.F.plain_set_update_loop _, ih (i + 1) _ (by omega) lt (W.frame _ s' _ _ st' (Nat.le_succ _) fun b hb o e => (same.2 b fun h : b = S => hSf (by rw [← h]; exact hb)).trans e) hS3 fun s2 hm2 hS4 => ?_⟩
    exact q s2 (Moved.trans W.gtrans ((hm.mono fun b hb => old hb).then_heap (Nat.le_succ _) fun b o hb e => (same.2 b fun h : b = S => hb (by rw [h]; exact List.mem_cons_self)).trans e) hm2) hS4
end
section
variable {prog : Program} {w : World} {A : Around} {E : Value → Shared → Prop} {s : Shared}
theorem call_set_ord {l : Addr} {items : Array Value} {key : Nat → Str} {Q : Value → Shared → Prop} (hh : A.handled = none) (hl : s.heap.IsList l items) (hv : ∀ (i : Nat) (v : Value), items[i]? = some v → ∃ t, v = .str (key i) t) (hb : items.size + 1 < scanBound)
    (q : ∀ (h' : Heap) (tk : Nat), SO.SetS (PySem.strKind prog w) h' s.heap.objs.size (fun k => (met key items.size).any (· == k)) (met key items.size).length → (∀ b o, b < s.heap.objs.size → s.heap.get? b = some o → h'.get? b = some o) → Q (.ref s.heap.objs.size) { s with heap := h', toks := tk }) :
    wpAny (model prog w) A (call (.type "set") [.ref l]) Q E s := by
  let S0 (led : Bool) : Obj := { cls := .type "set", dict := none, data := .set #[] 0 (.fresh 0 0 led) }
  obtain ⟨c, tl, hmro⟩ := PySem.F.called_set.mro
  have g1 := PySem.F.called_set.made
  have g2 := PySem.F.called_set.sub
  have g3 := PySem.F.called_set.notType
  have g4 := PySem.F.called_set.canCreate
  have g5 := PySem.F.typeCall_set_1 (.ref l)
  refine wpAny_call (codeAny_of_tree (wpAny_pure ⟨Code.quiet_builtin _ (by decide +kernel), codeAny_builtin PySem.F.entry_type_call ?_⟩))
  rw [Around.under_plain (weight_type_call_type "set" [.ref l] []) rfl]
  repeat (any_goals (first | assumption | wp_step))
  refine codeAny_mono (SO.code_set_led1 (.ref l) (E := E) (Q₁ := fun obj s₁ => ∃ led : Bool, led = (!w.params.followText "set-order") ∧ obj = .ref s.heap.objs.size ∧ s₁ = { s with heap := s.heap.push (S0 led) }) ⟨_, rfl, rfl, rfl⟩) fun r s₁ hr => ?_
  cases r with
  | error e => exact hr
  | ok fl =>
    cases fl with
    | ret obj =>
      obtain ⟨led, hled, rfl, rfl⟩ := hr
      have at0 : (s.heap.push (S0 led)).get? s.heap.objs.size = some (S0 led) := Heap.get?_push_size _ rfl
      have ty0 : Shared.TypeIs { s with heap := s.heap.push (S0 led) } (.ref s.heap.objs.size) "set" := ⟨_, at0, rfl⟩
      have g6 := PySem.F.called_set.init.lookup
      have g7 := PySem.F.called_set.init.bind (.ref s.heap.objs.size)
      repeat (any_goals (first | assumption | wp_step))
      refine codeAny_mono (codeAny_call_builtin (R := wants (fun r s₂ => r = .none ∧ ∃ h' tk, s₂ = { s with heap := h', toks := tk } ∧ SO.SetS (PySem.strKind prog w) h' s.heap.objs.size (fun k => (met key items.size).any (· == k)) (met key items.size).length ∧
          (∀ b o, b < s.heap.objs.size → s.heap.get? b = some o → h'.get? b = some o)) E) PySem.F.called_set.init.plain PySem.F.entry_set_init (check_set_init_1 ty0 ?_)) fun r₂ s₂ hr₂ => ?_
      · obtain ⟨⟨ocls, odict, odata, oslots⟩, hol, hcl, nl, hdl⟩ := hl
        simp only at hcl hdl
        subst hcl; subst hdl
        have hol' : (s.heap.push (S0 led)).get? l = some { cls := .type "list", dict := odict, data := .seq items nl, slots := oslots } := Heap.get?_push_of_some _ hol
        have hl1 : (s.heap.push (S0 led)).IsList l items := ⟨_, hol', rfl, nl, rfl⟩
        have g8 := PySem.F.sub_list_set
        have g9 := PySem.F.sub_list_frozenset
        have g10 : (Value.type "list" == Value.type "dict") = false := by decide
        have lt := Heap.lt_size hol
        have hh3 : A.in1.in1.in1.handled = none := by simp [hh]
        have e1 : (s.heap.push (S0 led)).objs.size = s.heap.objs.size + 1 := Heap.size_push ..
        unfold Builtin.«set.__init__» noKeywords Builtin.Frozenset.updateFrom
        generalize hPI : pyIter = PI
        wp_walk
        subst hPI
        refine wpAny_pyIter_list hl1 (wpAny_bind (wpAny_runValue ?_))
        refine loop_ord ((Walks.list hh3 _ l (by rw [e1]; exact Nat.ne_of_lt (Nat.lt_succ_of_lt lt)) items).toS) s.heap.objs.size (by rw [e1]; simp only [List.mem_cons, List.mem_singleton, List.not_mem_nil, or_false, not_or]; exact ⟨Nat.ne_of_lt (Nat.lt_succ_self _), Nat.ne_of_gt lt⟩) key hb hv (items.size - 0) 0 _ (by omega) (Nat.zero_le _) ⟨⟨_, Heap.get?_push_size _ rfl, rfl, rfl⟩, (hl1.push _)⟩ ?_ ?_
        · exact SO.setS_congr (SO.setS_fresh (Heap.get?_push_of_some _ at0) hled) (fun _ => rfl) rfl
        · intro ⟨h', g', d', tk', os'⟩ hm hS
          obtain rfl : g' = s.gens := hm.gens
          obtain rfl : d' = s.drawn := hm.drawn
          obtain rfl : os' = s.os := hm.os
          refine wpAny_pure ?_
          show wpAny _ _ (ret Value.none) _ _ _
          refine wpAny_pure ⟨rfl, h', tk', rfl, hS, fun b o hlt e => hm.heap b o ?_ (Heap.get?_push_of_some _ (Heap.get?_push_of_some _ e))⟩
          rw [e1]
          simp only [List.mem_cons, List.mem_singleton, List.not_mem_nil, or_false, not_or]
          exact ⟨Nat.ne_of_lt hlt, Nat.ne_of_lt (Nat.lt_succ_of_lt hlt)⟩
      · cases r₂ with
        | error e => exact hr₂
        | ok fl₂ =>
          cases fl₂ with
          | ret r =>
            obtain ⟨rfl, h', tk, rfl, hS, hk⟩ := hr₂
            repeat (any_goals (first | assumption | wp_step))
            exact q _ _ hS hk
          | _ => exact hr₂.elim
    | _ => exact hr.elim
end
end Fx.SS

namespace Fx
open PySem PySem.Spec PyProof.Rows L2 Evl Lk
namespace SO
theorem strs_ofE {P : Program} {w : World} : ∀ (vs : List Value), (∀ v ∈ vs, ∃ k : Str, Value.isStrOf k v = true) → ∃ ks, StrsAre vs ks
  | [], _ => ⟨[], .nil⟩
  | v :: vs, h => by
    obtain ⟨ks, hk⟩ := strs_ofE (P := P) (w := w) vs fun x hx => h x (List.mem_cons_of_mem _ hx)
    obtain ⟨k, e⟩ := h v (List.mem_cons_self ..)
    obtain ⟨t, rfl⟩ := Value.isStrOf_shape e
    exact ⟨k :: ks, .cons k t hk⟩
theorem strs_mem : ∀ {vs : List Value} {ks : List Str}, StrsAre vs ks → ∀ k, k ∈ ks ↔ ∃ v ∈ vs, Value.isStrOf k v = true
  | _, _, .nil, k => ⟨nofun, fun ⟨_, h, _⟩ => nomatch h⟩
  | _, _, .cons y t h, k => by
    have ih := strs_mem h k
    rw [List.mem_cons, ih]
    constructor
    · rintro (rfl | ⟨v, h1, h2⟩)
      · exact ⟨_, List.mem_cons_self .., beq_self_eq_true _⟩
      · exact ⟨v, List.mem_cons_of_mem _ h1, h2⟩
    · rintro ⟨v, h1, h2⟩
      rcases List.mem_cons.mp h1 with rfl | h1
      · exact .inl (eq_of_beq (show (y == k) = true from h2)).symm
      · exact .inr ⟨v, h1, h2⟩
theorem strs_len : ∀ {vs : List Value} {ks : List Str}, StrsAre vs ks → vs.length = ks.length
  | _, _, .nil => rfl
  | _, _, .cons _ _ h => by rw [List.length_cons, List.length_cons, strs_len h]
theorem sorted_ord {P : Program} {w : World} {A : Around} {E : Value → Shared → Prop} {s : Shared} {a : Addr} {S : Str → Bool} {n : Nat} {Q : Value → Shared → Prop} (H : SetS (PySem.strKind P w) s.heap a S n) (hh : A.handled = none) (hn : n < 64)
    (q : ∀ (s' : Shared) (p : Nat) (out : Array Value) (c : Nat) (ys : List Str), (∀ b o, s.heap.get? b = some o → s'.heap.get? b = some o) → s'.gens = s.gens → s'.os = s.os → s.heap.objs.size ≤ p → s'.heap.get? p = some (seqObj "list" out c) → StrsAre out.toList ys → sortedS ys = true → (∀ k, k ∈ ys ↔ S k = true) → ys.length = n → Q (.ref p) s') :
    wpAny (model P w) A (call (.builtin "sorted") [.ref a]) Q E s := by
  obtain ⟨o, es, ep, t, ho, hx, hd, he, hS, hb, hf, hz, hr, hl⟩ := H
  refine Calls.call_function_entry kind_sorted plain_sorted entry_sorted (args_sorted1 _) ?_
  unfold Builtin.sorted
  refine wpAny_bind (wpAny_of_eq (show checkCount "sorted" 1 1 [Value.ref a].length = pure () from rfl) ?_)
  refine wpAny_bind (collect_set (by simp [hh]) ⟨o, ho, hx.1, hd⟩ hf hb hr hl fun s1 out k1 z1 g1 o1 pm => ?_)
  have hk : ∀ v ∈ out, ∃ k : Str, Value.isStrOf k v = true := fun v hv => by
    obtain ⟨e, h1, rfl⟩ := List.mem_map.mp (pm.mem_iff.mp hv)
    obtain ⟨⟨k, h2, _⟩, _⟩ := he e h1
    exact ⟨k, h2⟩
  obtain ⟨ks, sk⟩ := strs_ofE (P := P) (w := w) out hk
  have lo : out.length = n := by rw [pm.length_eq, List.length_map, ← hz]; simp
  have mem : ∀ k, k ∈ ks ↔ S k = true := fun k => by
    rw [strs_mem sk k, hS k]
    constructor
    · rintro ⟨v, h1, h2⟩
      obtain ⟨e, h3, rfl⟩ := List.mem_map.mp (pm.mem_iff.mp h1)
      exact ⟨e, h3, h2⟩
    · rintro ⟨e, h1, h2⟩
      exact ⟨e.2, pm.mem_iff.mpr (List.mem_map.mpr ⟨e, h1, rfl⟩), h2⟩
  refine wpAny_bind (wpAny_newList ?_ (by rw [lo]; exact Nat.le_trans (Nat.le_of_lt hn) (Nat.le_of_ble_eq_true rfl)))
  have at0 : (s1.heap.push (seqObj "list" out.toArray 0)).get? s1.heap.objs.size = some (seqObj "list" out.toArray 0) := Heap.get?_push_size _ rfl
  refine wpAny_bind (wpAny_holding ?_)
  refine wpAny_call_entry (T := "list") slot_list_sort ⟨_, at0, rfl⟩ entry_list_sort ?_ (args_list_sort _)
  refine list_sort_treeK strKind_oneLt at0 sk.keysOf (fun v₁ v₂ rest e => keyKind_strs (ss := ks) (by rw [← e]; exact sk)) (by rw [lo]; exact hn) fun st' pm2 sd => ⟨_, rfl, ?_⟩
  obtain ⟨ys, sy, py, so⟩ := sorted_out_str sk pm2 sd
  refine wpAny_pure ⟨_, rfl, ?_⟩
  obtain ⟨c, hc⟩ := sortedHeap_at (out := Array.map (fun x => x.snd) (arrOf st')) at0
  refine q _ s1.heap.objs.size _ c ys (fun b u hb => ?_) g1 o1 z1 hc sy so (fun k => py.mem_iff.trans (mem k)) (by rw [py.length_eq, ← strs_len sk, lo])
  have hb1 := k1 b u hb
  have lt := Heap.lt_size hb1
  show (sortedHeap _ _ _ _).get? b = some u
  rw [sortedHeap_old (Nat.ne_of_lt lt) (by rw [size_push']; exact Nat.lt_succ_of_lt lt)]
  exact Heap.get?_push_of_some _ hb1
end SO
end Fx

namespace Fx
open PySem PySem.Spec PyProof.Rows L2 Evl Lk
/-! ### lists of texts, each once -/
namespace SO
theorem nodup_le {l m : List Str} : l.Nodup → (∀ x ∈ l, x ∈ m) → l.length ≤ m.length := by
  induction l generalizing m with
  | nil => intros; exact Nat.zero_le _
  | cons x l ih =>
    intro nd h
    obtain ⟨hx, nd⟩ := List.nodup_cons.mp nd
    have hm := h x (List.mem_cons_self ..)
    have i := ih (m := m.erase x) nd fun y hy => (List.mem_erase_of_ne (fun e => hx (by rw [← e]; exact hy))).mpr (h y (List.mem_cons_of_mem _ hy))
    rw [List.length_erase_of_mem hm] at i
    have := List.length_pos_of_mem hm
    rw [List.length_cons]
    omega
theorem nodup_of_len {l m : List Str} : l.Nodup → (∀ x ∈ l, x ∈ m) → m.length ≤ l.length → m.Nodup := by
  induction l generalizing m with
  | nil =>
    intro _ _ h
    rw [List.eq_nil_of_length_eq_zero (Nat.le_zero.mp h)]
    exact List.nodup_nil
  | cons x l ih =>
    intro nd h hl
    obtain ⟨hx, nd'⟩ := List.nodup_cons.mp nd
    have hm := h x (List.mem_cons_self ..)
    have sub : ∀ y ∈ l, y ∈ m.erase x := fun y hy => (List.mem_erase_of_ne (fun e => hx (by rw [← e]; exact hy))).mpr (h y (List.mem_cons_of_mem _ hy))
    have hp := List.length_pos_of_mem hm
    have le : (m.erase x).length ≤ l.length := by rw [List.length_erase_of_mem hm]; rw [List.length_cons] at hl; omega
    have i := ih nd' sub le
    have no : x ∉ m.erase x := fun hx2 => by
      have := nodup_le (m := m.erase x) nd fun y hy => by
        rcases List.mem_cons.mp hy with rfl | hy
        · exact hx2
        · exact sub y hy
      rw [List.length_cons] at this
      omega
    exact (List.perm_cons_erase hm).nodup_iff.mpr (List.nodup_cons.mpr ⟨no, i⟩)
theorem met_mem {key : Nat → Str} : ∀ (i : Nat) (x : Str), x ∈ SS.met key i → ∃ j, j < i ∧ x = key j
  | 0, x, h => by cases h
  | i + 1, x, h => by
    unfold SS.met at h
    split at h
    · obtain ⟨j, h1, h2⟩ := met_mem i x h
      exact ⟨j, by omega, h2⟩
    · rcases List.mem_append.mp h with h | h
      · obtain ⟨j, h1, h2⟩ := met_mem i x h
        exact ⟨j, by omega, h2⟩
      · exact ⟨i, by omega, List.mem_singleton.mp h⟩
theorem mem_met {key : Nat → Str} : ∀ (i j : Nat), j < i → key j ∈ SS.met key i
  | i + 1, j, h => by
    unfold SS.met
    rcases Nat.lt_or_ge j i with l | l
    · have := mem_met (key := key) i j l
      split
      · exact this
      · exact List.mem_append_left _ this
    · obtain rfl : j = i := by omega
      split
      · rename_i h2
        obtain ⟨a, ha, e⟩ := List.any_eq_true.mp h2
        rw [← eq_of_beq e]
        exact ha
      · exact List.mem_append_right _ (List.mem_singleton.mpr rfl)
theorem met_nodup {key : Nat → Str} : ∀ i : Nat, (SS.met key i).Nodup
  | 0 => List.nodup_nil
  | i + 1 => by
    unfold SS.met
    split
    · exact met_nodup i
    · rename_i h
      refine List.nodup_append.mpr ⟨met_nodup i, List.pairwise_singleton _ _, fun a ha b hb e => h ?_⟩
      rw [List.mem_singleton.mp hb] at e
      subst e
      exact List.any_eq_true.mpr ⟨_, ha, beq_self_eq_true _⟩
theorem met_iff {xs : List Str} {k : Str} : k ∈ SS.met (fun i => xs.getD i Str.empty) xs.length ↔ k ∈ xs := by
  constructor
  · intro h
    obtain ⟨j, h1, rfl⟩ := met_mem _ _ h
    rw [List.getD_eq_getElem?_getD, List.getElem?_eq_getElem h1]
    exact List.getElem_mem h1
  · intro h
    obtain ⟨j, h1, rfl⟩ := List.getElem_of_mem h
    have := mem_met (key := fun i => xs.getD i Str.empty) xs.length j h1
    rw [List.getD_eq_getElem?_getD, List.getElem?_eq_getElem h1] at this
    exact this
end SO
/-! ### sorted(set(xs)), xs a list of texts -/
def tSortedSets (K : PySem.W.Frag) (ta : TE) : TE := fun σ H Q => ta σ H fun x H1 => ∃ l, ∃ xs : List Str, x = .ref l ∧ SqL K H1 l (xs.map V.str) ∧ dst xs < 64 ∧ xs.length ≤ 4000 ∧ ∀ (ys : List Str) (p : Addr), ys.Nodup → sortedS ys = true → (∀ y, y ∈ ys ↔ y ∈ xs) → H1 p = none → Q (.ref p) (upd H1 p (.lst (ys.map V.str)))
section
variable {X : Cx} {G : Gx} {w : WE}
theorem pe_sortedSets {a : Expr} {ta : TE} {p p2 q pos : Pos} (hc : X.calm = true) (hg : Gl X "sorted") (hm : X.mg "sorted" = none) (hg2 : Gl X "set") (hm2 : X.mg "set" = none) (ha : PE X a ta)
    (na : starEach [a] X.env = (false, eval a X.env) :: starEach [] X.env := by rfl) : PE X (.Call (.Name "sorted" p) [.Call (.Name "set" p2) [a] [] q] [] pos) (tSortedSets X.K ta) := by
  refine ⟨fun pins s σ H Q I h => ?_⟩
  refine Call_ (ld_blt I hg hm boot_sorted ?_)
  refine PyProof.Rows.callWith_builtin1 (PyProof.Rows.args_cons ?_ rfl) rfl rfl
  refine Call_ (ld_blt I hg2 hm2 boot_set ?_)
  refine PyProof.Rows.callWith_type1 (PyProof.Rows.args_cons (thn (ha.run pins s σ H _ I h) fun v s1 ⟨x, H1, I1, r1, q1⟩ => PyProof.Rows.args_nil ?_) na) na rfl
  obtain ⟨l, xs, rfl, hq, h1, h2, q1⟩ := q1
  cases r1
  obtain ⟨its, r, pl, hz⟩ := I1.list hq
  have sa : StrsAre its xs := strsAre_of r
  have hl : its.toArray.size = xs.length := by rw [List.size_toArray, ← r.length, List.length_map]
  refine SS.call_set_ord (key := fun i => xs.getD i Str.empty) (I1.ok.hd hc) pl.isList (fun i v hv => SS.strs_at sa i v (by simpa using hv)) (by rw [hl]; unfold scanBound; omega) fun h' tk hS hk => ?_
  refine PyProof.Rows.args_nil ?_
  rw [hl] at hS
  have I2 : Inv X pins σ H1 { s1 with heap := h', toks := tk } := I1.kept fun b o e => hk b o (Heap.lt_size e) e
  refine SO.sorted_ord (s := { s1 with heap := h', toks := tk }) hS (I1.ok.hd hc) h1 fun s' p out c ys k g o z hp sy so mem len => ?_
  have fresh : H1 p = none := I2.hok.fresh z
  have nd : ys.Nodup := SO.nodup_of_len (SO.met_nodup _) (fun y hy => (mem y).mpr (List.any_eq_true.mpr ⟨y, hy, beq_self_eq_true _⟩)) (Nat.le_of_eq len)
  have mm : ∀ y, y ∈ ys ↔ y ∈ xs := fun y => (mem y).trans (Iff.trans ⟨fun h => by
    obtain ⟨z, h1, h2⟩ := List.any_eq_true.mp h
    rw [← eq_of_beq h2]
    exact h1, fun h => List.any_eq_true.mpr ⟨y, h, beq_self_eq_true _⟩⟩ SO.met_iff)
  obtain ⟨h2', g2, d2, t2, o2⟩ := s'
  dsimp only at g o hp k z
  subst g o
  refine ⟨.ref p, _, ?_, rfl, q1 ys p nd so mm fresh⟩
  have ob : ObjOk X.prog X.w (upd H1 p (.lst (ys.map V.str))) h2' p (.lst (ys.map V.str)) := ⟨by rw [List.length_map, len]; exact Nat.le_trans (Nat.le_of_lt h1) (Nat.le_of_ble_eq_true rfl), out.toList, c, vals_of_strs sy, hp⟩
  exact Inv.call (s := { s1 with heap := h', toks := tk }) (ch := []) I2 (Un.laid k z fresh) (I2.hok.laid k z ob) I2.bare fun b hb => nomatch hb
def wSortedSets (w : WE) : WE := fun env Q => w env fun r e => ∃ xs : List Str, r = .f (.lst (xs.map D.str)) ∧ dst xs < 64 ∧ xs.length ≤ 4000 ∧ ∀ ys : List Str, ys.Nodup → sortedS ys = true → (∀ y, y ∈ ys ↔ y ∈ xs) → Q (.f (.lst (ys.map D.str))) e
theorem ge_sortedSets {a : Expr} {p p2 q pos : Pos} (hc : X.calm = true) (hg : Gl X "sorted") (hm : X.mg "sorted" = none) (hg2 : Gl X "set") (hm2 : X.mg "set" = none) (ha : GE X G a w) (hK : X.K = G.K := by rfl)
    (na : starEach [a] X.env = (false, eval a X.env) :: starEach [] X.env := by rfl) : GE X G (.Call (.Name "sorted" p) [.Call (.Name "set" p2) [a] [] q] [] pos) (wSortedSets w) := by
  refine ⟨pe_imp (pe_sortedSets hc hg hm hg2 hm2 ha.pe na) fun σ H Q ⟨T, env, F, r, q⟩ => ⟨T, env, F, r, ha.mono _ _ _ (fun s e ⟨xs, hs, h1, h2, q⟩ x T1 H1 F1 f1 a1 z1 => ?_) q⟩, fun env Q Q' i q => ha.mono _ _ _ (fun s e ⟨xs, hs, h1, h2, q⟩ => ⟨xs, hs, h1, h2, fun ys a b c => i _ _ (q ys a b c)⟩) q⟩
  subst hs
  obtain ⟨p, vs, rfl, l, f⟩ := z1.rel.cz (d := .lst (xs.map D.str)) rfl
  rw [fz_strs f] at l
  exact ⟨p, xs, rfl, by rw [hK]; exact l, h1, h2, fun ys p2 nd so mm np => q ys nd so mm (.ref p2) T1 _ F1 [] (a1.trans r.trk (Att.ex a1.re (Ex.new np))) (res_f (fz_new_l a1.re.trk np (fzl_strs ys)))⟩
theorem x_sortedSets {env : Env} {Q : Sl → Env → Prop} (h : w env fun r e => ∃ xs : List Str, r = .f (.lst (xs.map D.str)) ∧ dst xs < 64 ∧ xs.length ≤ 4000 ∧ ∀ ys : List Str, ys.Nodup → sortedS ys = true → (∀ y, y ∈ ys ↔ y ∈ xs) → Q (.f (.lst (ys.map D.str))) e) : wSortedSets w env Q := h
end
end Fx

namespace Fx
open PySem PySem.Spec PyProof.Rows L2 Evl Lk
/-! ### a tuple, a text n times -/
theorem rmul_tuple {prog : Program} {w : World} {A : Around} {R : Fin → Shared → Prop} {E : Value → Shared → Prop} {s : Shared} {i : Int} {t : Tok} {l : Addr} {o : Obj} {items : Array Value} {n : Nat} (h : s.heap.get? l = some o) (hd : o.data = .seq items n) (q : R (.done (.ret .notImplemented)) s) :
    wpAny (model prog w) A (Builtin.«int.__rmul__» ⟨[.int i t, .ref l], []⟩) R E s := by
  obtain ⟨cls, dd, data, sl⟩ := o
  simp only at hd
  subst hd
  unfold Builtin.«int.__rmul__» Builtin.Int.intBinary
  repeat (any_goals (first | assumption | wp_step))
theorem mul_list_ {α : Type} (a : Array α) : ∀ (k : Nat) (acc : Array α), (List.foldl (fun x1 x2 => x1 ++ x2) acc (List.replicate k a)).toList = acc.toList ++ (List.replicate k a.toList).flatten
  | 0, acc => by simp
  | k + 1, acc => by
    rw [List.replicate_succ, List.foldl_cons, mul_list_ a k, List.replicate_succ, List.flatten_cons, Array.toList_append, List.append_assoc]
theorem vs_len {α : Type} (k : Nat) (xs : List α) : k * xs.length = (List.replicate k xs).flatten.length := by
  induction k with
  | zero => simp
  | succ k ih =>
    rw [List.replicate_succ, List.flatten_cons, List.length_append, ← ih, Nat.succ_mul]
    omega
theorem FzL.rep {K : PySem.W.Frag} {H : Hp} {vs : List V} {ds : List D} (h : FzL K H vs ds) : ∀ k : Nat, FzL K H (List.replicate k vs).flatten (List.replicate k ds).flatten
  | 0 => .nil
  | k + 1 => by
    rw [List.replicate_succ, List.replicate_succ, List.flatten_cons, List.flatten_cons]
    exact h.append (h.rep k)
section
variable {X : Cx} {G : Gx}
end
end Fx

namespace Fx
open PySem PySem.Spec PyProof.Rows L2 Evl Lk
/-! ### a list, a text any number of times -/
theorem op_mulL {X : Cx} : OpR X (binaryOp .Mult) (fun x y H Q => ∃ (a : Addr) (xs : List V) (n : Int), x = .ref a ∧ y = .int n ∧ SqL X.K H a xs ∧ xs.length ≤ 1000 ∧ 0 ≤ n ∧ n ≤ 1000 ∧ ∀ p, H p = none → Q (.ref p) (upd H p (.lst (List.replicate n.toNat xs).flatten))) := by
  intro pins s σ H x y v u Q I rx ry ⟨a, xs, n, h1, h2, hq, z, n2, n3, q1⟩
  subst h1 h2
  cases rx
  obtain ⟨t, rfl⟩ := ry
  obtain ⟨its, r, ⟨o, m, g1, g2, g3, g4⟩, _⟩ := I.list hq
  obtain ⟨cls, dd, data, sl⟩ := o
  simp only at g2 g4
  subst g2 g4
  have len : its.length = xs.length := r.length.symm
  have ty : s.TypeIs (.ref a) "list" := ⟨_, g1, rfl⟩
  refine wpAny_binaryOp_repeat_ref (T := "list") (U := "int") (by decide) ty (fun s' => typeIs_int s' _ _) noFill_list_mul PySem.F.fills_int_mul PySem.F.slot_int_rmul repeat_list PySem.F.slot_int_index.lookup ?_
  refine wpAny_call_entry PySem.F.slot_int_rmul (typeIs_int s _ _) PySem.F.entry_int_rmul (rmul_tuple g1 rfl ⟨_, rfl, rfl, ty, ?_⟩) (PySem.F.args_int_rmul_2 _ _)
  have fr : H s.heap.objs.size = none := I.hok.fresh (Nat.le_refl _)
  have b1 : its.toArray.size * n.toNat ≤ 1000 * 1000 := Nat.mul_le_mul (by rw [List.size_toArray, len]; exact z) (by omega)
  refine call_meets PySem.F.slot_list_mul ty PySem.F.entry_list_mul (PySem.F.args_list_mul_2 _ _) (lm_list_mul_any a its.toArray m dd sl n t (by unfold Builtin.List.listFitsIndex; simp; omega) (by omega) (by
    unfold Builtin.List.listTooLong
    have : (1000000 : Nat) ≤ sizeLine := Nat.le_of_ble_eq_true rfl
    simp at b1 ⊢
    omega)) ⟨g1, .ref _, upd H s.heap.objs.size (.lst (List.replicate n.toNat xs).flatten), ?_, rfl, q1 _ fr⟩
  have arr : List.foldl (fun x1 x2 => x1 ++ x2) #[] (List.replicate (if its.toArray.isEmpty = true then 0 else n.toNat) its.toArray) = (List.replicate n.toNat its).flatten.toArray := by
    apply Array.toList_inj.mp
    rw [mul_list_]
    by_cases e : its.toArray.isEmpty = true
    · have e' : its = [] := by simpa [Array.isEmpty] using e
      rw [if_pos e, e']
      simp
    · rw [if_neg e]
      simp
  rw [arr]
  have vs : Vals (List.replicate n.toNat xs).flatten (List.replicate n.toNat its).flatten := by
    generalize n.toNat = k
    induction k with
    | zero => exact .nil
    | succ k ih =>
      rw [List.replicate_succ, List.replicate_succ, List.flatten_cons, List.flatten_cons]
      exact r.append ih
  have lz : (List.replicate n.toNat xs).flatten.length ≤ sizeLine := by
    rw [← vs_len n.toNat xs]
    have : n.toNat * xs.length ≤ 1000 * 1000 := Nat.mul_le_mul (by omega) z
    exact Nat.le_trans this (Nat.le_of_ble_eq_true rfl)
  exact I.laid (t' := s.toks) (fun b u e => Heap.get?_push_of_some _ e) (Nat.le_refl _) ⟨lz, _, _, vs, Heap.get?_push_size _ rfl⟩
section
variable {X : Cx} {G : Gx}
end
end Fx

/-! an own exception class called with a keyword -/
namespace Fx
namespace KwX
open PySem PySem.Spec L2 PyProof.Rows
section
variable {M : Model} {A : Around} {E : Value → Shared → Prop} {h : Heap} {g : Array GenState} {d : Drawn} {t : Nat} {os : OsState} {nm q : Str} {C N : Addr} {bs bm bmB : List Value} {hdct : Bool} {sn : List Str} {sub : List Value} {ab : Bool} {col : Option Bool} {dd : Option Addr}
  {k0 k1 k2 k3 k5 : Option Value} {B newId initId : String}
end
end KwX
end Fx
namespace PySem
namespace RowX
open PySem.W PySem.Calls PyProof.Rows PySem.HandSPX
section
variable {prog : Program} {w : World} {A : Around} {E : Value → Shared → Prop} {R : Result → Shared → Prop} {s : Shared} {K : Frag} {mg mb : Str → Option Value} {x : Str} {C : Addr}
end
end RowX
end PySem

/-! own exceptions as values: C(text), C(n) with a row, C(row=n) -/
namespace Fx
open PySem PySem.Spec PyProof.Rows L2 Evl Lk
section
variable {X : Cx} {G : Gx} {x : Str} {C : Addr} {e : Expr} {w : WE} {ta : TE} {p p2 pos : Pos} {k : Nat}
end
end Fx

/-! what the top has written of classes that are kin -/
namespace Fx
open PySem PySem.Spec PyProof.Rows L2 Evl Lk
end Fx

/-! dicts: d[k] = v at a slot that owns a dict of values; d[k]; sorted(d) -/
namespace Fx
open PySem PySem.Spec PyProof.Rows L2 Evl Lk
/-- in its place, or at the end -/
def putP {α : Type} (kvs : List (Key × α)) (k : Key) (v : α) : List (Key × α) :=
  if (kvs.any fun kv => decide (kv.1 = k)) = true then kvs.map (fun kv => if kv.1 = k then (kv.1, v) else kv) else kvs ++ [(k, v)]
/-- a dict of values, as an owned thing, as a value -/
def dicO (l : List (Key × D)) : O := .dic (l.map (·.1)) (l.map fun p => O.f p.2)
def dicD (l : List (Key × D)) : D := .dic (l.map (·.1)) (l.map (·.2))
inductive Zp (K : PySem.W.Frag) (H : Hp) : List (Key × V) → List (Key × D) → Prop
  | nil : Zp K H [] []
  | cons {k : Key} {v : V} {d : D} {kvs : List (Key × V)} {l : List (Key × D)} : Fz K H v d → Zp K H kvs l → Zp K H ((k, v) :: kvs) ((k, d) :: l)
section
variable {K : PySem.W.Frag} {H : Hp}
theorem zp_of : ∀ {l : List (Key × D)} {vs : List V}, FzL K H vs (l.map (·.2)) → Zp K H ((l.map (·.1)).zip vs) l
  | [], _, h => by cases h; exact .nil
  | (k, d) :: l, _, h => by
    cases h with
    | cons a b => exact .cons a (zp_of b)
theorem Zp.fst {kvs : List (Key × V)} {l : List (Key × D)} (h : Zp K H kvs l) : kvs.map (·.1) = l.map (·.1) := by
  induction h with
  | nil => rfl
  | cons a b ih => rw [List.map_cons, List.map_cons, ih]
theorem Zp.snd {kvs : List (Key × V)} {l : List (Key × D)} (h : Zp K H kvs l) : FzL K H (kvs.map (·.2)) (l.map (·.2)) := by
  induction h with
  | nil => exact .nil
  | cons a b ih => exact .cons a ih
theorem Zp.any {kvs : List (Key × V)} {l : List (Key × D)} (h : Zp K H kvs l) (k : Key) : (kvs.any fun kv => decide (kv.1 = k)) = (l.any fun kv => decide (kv.1 = k)) := by
  induction h with
  | nil => rfl
  | cons a b ih => rw [List.any_cons, List.any_cons, ih]
theorem Zp.append {kvs kws : List (Key × V)} {l m : List (Key × D)} (h : Zp K H kvs l) (g : Zp K H kws m) : Zp K H (kvs ++ kws) (l ++ m) := by
  induction h with
  | nil => exact g
  | cons a b ih => exact .cons a ih
theorem Zp.put {kvs : List (Key × V)} {l : List (Key × D)} {k : Key} {v : V} {d : D} (h : Zp K H kvs l) (f : Fz K H v d) : Zp K H (putP kvs k v) (putP l k d) := by
  unfold putP
  rw [h.any k]
  by_cases c : (l.any fun kv => decide (kv.1 = k)) = true
  · rw [if_pos c, if_pos c]
    clear c
    induction h with
    | nil => exact .nil
    | cons a b ih =>
      rename_i k0 v0 d0 kvs l
      rw [List.map_cons, List.map_cons]
      by_cases e : k0 = k
      · rw [if_pos e, if_pos e]
        exact .cons f ih
      · rw [if_neg e, if_neg e]
        exact .cons a ih
  · rw [if_neg c, if_neg c]
    exact h.append (.cons f .nil)
theorem zip_self {α : Type} : ∀ l : List (Key × α), (l.map (·.1)).zip (l.map (·.2)) = l
  | [] => rfl
  | p :: l => by rw [List.map_cons, List.map_cons, List.zip_cons_cons, zip_self l]
end
theorem Zp.length {K : PySem.W.Frag} {H : Hp} {kvs : List (Key × V)} {l : List (Key × D)} (h : Zp K H kvs l) : kvs.length = l.length := by
  have := congrArg List.length h.fst
  rw [List.length_map, List.length_map] at this
  exact this
section
variable {X : Cx} {G : Gx} {o i value : Expr} {wv wk : WE} {pos pos' : Pos} {j : Nat}
end
end Fx

/-! dict values: d[k], sorted(d) -/
namespace Fx
open PySem PySem.Spec PyProof.Rows L2 Evl Lk
def getP {α : Type} (l : List (Key × α)) (k : Key) : Option α := (l.find? fun kv => decide (kv.1 = k)).map (·.2)
section
variable {K : PySem.W.Frag} {H : Hp}
theorem Zp.get {kvs : List (Key × V)} {l : List (Key × D)} (h : Zp K H kvs l) {k : Key} {d : D} (e : getP l k = some d) : ∃ v, valV kvs k = some v ∧ Fz K H v d := by
  induction h with
  | nil => cases e
  | cons a b ih =>
    rename_i k0 v0 d0 kvs l
    by_cases c : k0 = k
    · have e1 : getP ((k0, d0) :: l) k = some d0 := by simp [getP, List.find?_cons, c]
      rw [e1] at e
      cases e
      exact ⟨v0, valV_pos c, a⟩
    · have e1 : getP ((k0, d0) :: l) k = getP l k := by simp [getP, List.find?_cons, c]
      rw [e1] at e
      obtain ⟨v, h1, h2⟩ := ih e
      exact ⟨v, (valV_neg c).trans h1, h2⟩
theorem fz_dicD {l : List (Key × D)} {v : V} (h : Fz K H v (dicD l)) : ∃ a kvs, v = .ref a ∧ Rd H a (.dK kvs) ∧ Zp K H kvs l := by
  have h : Fz K H v (.dic (l.map (·.1)) (l.map (·.2))) := h
  cases h with
  | dic r hl f => exact ⟨_, _, rfl, r, zp_of f⟩
end
theorem rd_un {T : Addr → Prop} {H : Hp} {a : Addr} {o : HO} (l : Rd (hid T H) a o) : Rd H a o := rd_hid l
def wDIx (w1 w2 : WE) : WE := fun env Q => w1 env fun r e => ∃ l, r = .f (dicD l) ∧ w2 e fun r2 e2 => ∃ k d, r2 = .f (dK k) ∧ getP l k = some d ∧ Q (.f d) e2
section
variable {X : Cx} {G : Gx} {o i e : Expr} {w w1 w2 : WE} {pos p : Pos}
theorem ge_dix (hu : X.A.units + 1 < cLine) (ho : GE X G o w1) (hi : GE X G i w2) (hs : NoSl i) : GE X G (.Subscript o i pos) (wDIx w1 w2) := by
  refine ⟨pe_imp (pe_dget hu ho.pe hi.pe hs) fun σ H Q ⟨T, env, F, r, q⟩ => ⟨T, env, F, r, ho.mono _ _ _ (fun s e ⟨l, hs, q⟩ x T1 H1 F1 f1 a1 z1 => ?_) q⟩, fun env Q Q' i q => ho.mono _ _ _ (fun s e ⟨l, hs, q⟩ => ⟨l, hs, hi.mono _ _ _ (fun s2 e2 ⟨k, d, h1, h2, q⟩ => ⟨k, d, h1, h2, i _ _ q⟩) q⟩) q⟩
  subst hs
  refine ⟨T1, e, F1, a1.re, hi.mono _ _ _ (fun s2 e2 ⟨k, d, h1, h2, q⟩ y T2 H2 F2 f2 a2 z2 => ?_) q⟩
  subst h1
  have ey := fz_dK z2.rel.1
  subst ey
  obtain ⟨a, kvs, rfl, rd, zp⟩ := fz_dicD (Fz.att a1.re a2 z1.rel.1)
  obtain ⟨v, g1, g2⟩ := zp.get h2
  exact ⟨a, v, rfl, .inl ⟨_, k, rd_un rd, rfl, g1.symm⟩, q _ T2 H2 F2 [] (a1.trans r.trk a2) (res_f g2)⟩
end
end Fx

/-! {} as an owned dict; a starred element of a display -/
namespace Fx
open PySem PySem.Spec PyProof.Rows L2 Evl Lk
section
variable {X : Cx} {G : Gx}
variable {e : Expr} {es : List Expr} {w : WE} {wr : WAD} {p : Pos}
end
end Fx

/-! walks of dicts -/
namespace Fx
open PySem PySem.Spec PyProof.Rows L2 Evl Lk
theorem u1 {k : Nat} {A : Around} (hr : Room k A) : A.units + 1 < cLine := by have := hr.un; omega
section
variable {env : Env} {Q : Sl → Env → Prop} {w w1 w2 wv wk : WE} {wr : WAD} {D0 : WEnds} {i : Nat}
theorem x_dix (h : w1 env fun r e => ∃ l, r = .f (dicD l) ∧ w2 e fun r2 e2 => ∃ k d, r2 = .f (dK k) ∧ getP l k = some d ∧ Q (.f d) e2) : wDIx w1 w2 env Q := h
theorem fds_fs : ∀ l : List (Key × D), O.fds (l.map fun p => O.f p.2) = some (l.map (·.2))
  | [] => rfl
  | p :: l => by
    have h := fds_fs l
    rw [List.map_cons, List.map_cons]
    unfold O.fds
    rw [h]
    rfl
theorem cd_dicO (l : List (Key × D)) : (dicO l).cd = some (dicD l) := by
  show (O.fds _).map _ = _
  rw [fds_fs]
  rfl
end
end Fx

/-! defs that are called where no guard of repr stands -/
namespace L2
open PySem PySem.Spec PyProof.Rows
section
variable {P : Program} {w : World} {K : PySem.W.Frag} {mg : Str → Option Value} {base : Heap} {N ps : List Str} {qual : Str} {scope : Scope} {f : Addr} {A : Around} {outer : List Env} {s s1 : Shared} {H : Hp} {E : XK} {us : List Value} {vs : List V}
end
section
variable {X : Cx} {x : Str} {p pos : Pos} {k j : Nat} {sp : Sp} {e : Expr} {es : List Expr} {ta : TA}
end
end L2
namespace Fx
open PySem PySem.Spec PyProof.Rows L2 Evl Lk
/-! ### where no guard stands -/
section
variable {P : Program} {w : World} {K : PySem.W.Frag} {mg : Str → Option Value} {base : Heap} {x q : Str} {st : Stmt} {N ps : List Str} {k : Nat} {tabs : List Addr}
end
section
variable {X : Cx} {G : Gx} {e : Expr} {es : List Expr} {wd : WAD} {x : Str} {k j : Nat} {tabs : List Addr} {p pos : Pos} {W : WFn}
end
end Fx

namespace Lk
open PySem PySem.Spec PyProof.Rows L2 Evl
/-! ### the law's end, where no guard stands -/
section
variable {P : Program} {w : World} {K : PySem.W.Frag} {mg mb : Str → Option Value}
end
end Lk
namespace Fx
open PySem PySem.Spec PyProof.Rows L2 Evl Lk
end Fx

/-! repr of a dict of values -/
namespace Fx
open PySem PySem.Spec PyProof.Rows L2 Evl Lk
section
variable {X : Cx} {pins : List (Addr × Obj)} {σ : L2.St} {H : Hp} {s : Shared} {T : Addr → Prop}
end
section
variable {X : Cx} {G : Gx} {e : Expr} {w : WE} {p pos : Pos}
end
end Fx

/-! texts compared, whatever they hold -/
namespace Fx
open PySem PySem.Spec PyProof.Rows L2 Evl Lk
section
variable {X : Cx} {G : Gx}
end
end Fx

/-! str of a tuple, repr of a tuple or a list, where no guard stands -/
namespace Fx
open PySem PySem.Spec PyProof.Rows L2 Evl Lk
section
variable {X : Cx} {G : Gx}
end
end Fx

/-! k in d, k not in d, d a dict of values -/
namespace Fx
open PySem PySem.Spec PyProof.Rows L2 Evl Lk
theorem Zp.get? {K : PySem.W.Frag} {H : Hp} {kvs : List (Key × V)} {l : List (Key × D)} (h : Zp K H kvs l) (k : Key) : (valV kvs k).isSome = (getP l k).isSome := by
  induction h with
  | nil => rfl
  | cons a b ih =>
    rename_i k0 v0 d0 kvs l
    by_cases c : k0 = k
    · have e1 : getP ((k0, d0) :: l) k = some d0 := by simp [getP, List.find?_cons, c]
      rw [e1, show valV ((k0, v0) :: kvs) k = some v0 from valV_pos c]
      rfl
    · have e1 : getP ((k0, d0) :: l) k = getP l k := by simp [getP, List.find?_cons, c]
      rw [e1, show valV ((k0, v0) :: kvs) k = valV kvs k from valV_neg c]
      exact ih
def dInD (neg : Bool) : Op2 := fun a b Q => ∃ k l, a = dK k ∧ b = dicD l ∧ Q (.bl (if neg = true then !(getP l k).isSome else (getP l k).isSome))
section
variable {X : Cx} {G : Gx}
theorem cz_dicD {K : PySem.W.Frag} {T : Addr → Prop} {H : Hp} {v : V} {l : List (Key × D)} (h : Cz K T H v (dicD l)) : ∃ a kvs, v = .ref a ∧ Rd H a (.dK kvs) ∧ Zp K H kvs l := fz_dicD h.fz
theorem cz_dK {K : PySem.W.Frag} {T : Addr → Prop} {H : Hp} {v : V} {k : Key} (h : Cz K T H v (dK k)) : v = kV k := fz_dK h.fz
theorem opx_ninD (hu : X.A.units + 1 < cLine) : OpX X G (compareOp .NotIn) (dInD true) := by
  refine ⟨fun pins s σ H x y v u Q I rx ry ⟨T, d1, d2, t, c1, c2, k, l, h1, h2, q⟩ => ?_, fun a b Q Q' i ⟨k, l, h1, h2, q⟩ => ⟨k, l, h1, h2, i _ q⟩⟩
  subst h1 h2
  obtain rfl := cz_dK c1
  obtain ⟨a, kvs, rfl, rd, zp⟩ := cz_dicD c2
  cases ry
  have q : ∀ v H', Ex H H' → Fz G.K (hid T H') v (.bl (!(getP l k).isSome)) → Q v H' := q
  rw [← zp.get? k] at q
  exact d_notIn hu I (.inl ⟨_, k, rd, rfl, rfl⟩) rx fun s3 I3 => ⟨.bl _, H, I3, rfl, q _ H (Ex.refl H) (.bl _)⟩
theorem x_ninD {k : Key} {l : List (Key × D)} {Q : D → Prop} (h : Q (.bl (!(getP l k).isSome))) : dInD true (dK k) (dicD l) Q := ⟨k, l, rfl, rfl, h⟩
end
end Fx

/-! dict(list of pairs) -/
namespace Fx
open PySem PySem.Spec PyProof.Rows L2 Evl Lk
def mergeP {α : Type} : List (Key × α) → List (Key × α) → List (Key × α)
  | acc, [] => acc
  | acc, (k, v) :: r => mergeP (putP acc k v) r
section
variable {K : PySem.W.Frag} {H : Hp}
theorem Zp.merge : ∀ {more : List (Key × V)} {m : List (Key × D)} {kvs : List (Key × V)} {l : List (Key × D)}, Zp K H kvs l → Zp K H more m → Zp K H (mergeK kvs more) (mergeP l m)
  | _, _, _, _, z, .nil => z
  | _, _, kvs, l, z, .cons (k := k) (v := v) (d := d) (kvs := more) (l := m) a b => show Zp K H (mergeK (putK kvs k v) more) (mergeP (putP l k d) m) from Zp.merge (kvs := putK kvs k v) (l := putP l k d) (z.put a) b
def pairD (p : Key × D) : D := .tup [dK p.1, p.2]
theorem pairs_of : ∀ {l : List (Key × D)} {vs : List V}, FzL K H vs (l.map pairD) → ∃ (ps : List Addr) (kvs : List (Key × V)), vs = ps.map V.ref ∧ Paired (fun p kv => SqT K H p [kV kv.1, kv.2]) ps kvs ∧ Zp K H kvs l
  | [], _, h => by cases h; exact ⟨[], [], rfl, .nil, .nil⟩
  | (k, d) :: l, _, h => by
    cases h with
    | cons a b =>
      obtain ⟨ps, kvs, e, pr, z⟩ := pairs_of b
      have a : Fz K H _ (.tup [dK k, d]) := a
      cases a with
      | tup s f =>
        rename_i p xs
        cases f with
        | cons f1 f =>
          cases f with
          | cons f2 f =>
            cases f
            have e1 := fz_dK f1
            subst e1
            exact ⟨p :: ps, (k, _) :: kvs, by rw [e]; rfl, .cons s pr, .cons f2 z⟩
end
section
variable {X : Cx} {G : Gx} {e : Expr} {w : WE} {p pos : Pos}
def wDictP (w : WE) : WE := fun env Q => w env fun r e => ∃ l : List (Key × D), r = .f (.lst (l.map pairD)) ∧ Q (.own (dicO (mergeP [] l))) e
theorem own_dicO_new {T : Addr → Prop} {H : Hp} {q : Addr} {kvs : List (Key × V)} {l : List (Key × D)} (np : H q = none) (t : Trk T H) (z : Zp G.K (hid T H) kvs l) : Ow G.K (fun a => T a ∨ a = q) (upd H q (.dK kvs)) (dicO l) (.ref q) [q] := by
  have z2 : FzL G.K (hid (fun a => T a ∨ a = q) (upd H q (.dK kvs))) (kvs.map (·.2)) (l.map (·.2)) := z.snd.ex (hid_new np)
  have ol := owl_fs (T := fun a => T a ∨ a = q) (H := upd H q (.dK kvs)) z2
  rw [List.map_map] at ol
  have fin : Ow G.K (fun a => T a ∨ a = q) (upd H q (.dK kvs)) (.dic (kvs.map (·.1)) (l.map (O.f ∘ fun x => x.2))) (.ref q) [q] := .dic (fp := []) (.inr rfl) (by rw [zip_self]; exact upd_same) (by rw [List.length_map, List.length_map]) ol (by simp)
  rw [z.fst] at fin
  exact fin
theorem ge_dictP (hc : X.calm = true) (hg : Gl X "dict") (hm : X.mg "dict" = none) (he : GE X G e w) (hK : X.K = G.K := by rfl) (hst : starEach [e] X.env = (false, eval e X.env) :: starEach [] X.env := by rfl) : GE X G (.Call (.Name "dict" p) [e] [] pos) (wDictP w) := by
  refine ⟨pe_imp (pe_callTy (call_dictP hc) hg hm rfl (pa_cons he.pe pa_nil hst) (by decide) (by decide) hst rfl) fun σ H Q ⟨T, env, F, r, q⟩ => ?_, fun env Q Q' i q => he.mono _ _ _ (fun s e ⟨l, h1, q⟩ => ⟨l, h1, i _ _ q⟩) q⟩
  refine ⟨T, env, F, r, he.mono _ _ _ (fun s e ⟨l, h1, q⟩ x T1 H1 F1 f1 a1 z1 => ?_) q⟩
  subst h1
  have z : Fz G.K (hid T1 H1) x (.lst (l.map pairD)) := z1.rel.1
  cases z with
  | lst sl f =>
    rename_i a vs
    obtain ⟨ps, kvs, e1, pr, zp⟩ := pairs_of f
    subst e1
    have pr2 : Paired (fun p kv => SqT X.K H1 p [kV kv.1, kv.2]) ps kvs := by
      rw [hK]
      clear zp sl f q z1
      induction pr with
      | nil => exact .nil
      | cons a b ih => exact .cons (ex_t hid_ex a) ih
    refine ⟨a, ps, kvs, rfl, by rw [hK]; exact ex_l hid_ex sl, pr2, fun q2 np => ?_⟩
    exact q _ _ _ F1 [q2] (a1.trans r.trk (att_new a1.re np)) (res_trans r.trk a1 (own_new a1.re np (own_dicO_new np a1.re.trk (Zp.merge .nil zp))))
theorem x_dictP {env : Env} {Q : Sl → Env → Prop} (h : w env fun r e => ∃ l : List (Key × D), r = .f (.lst (l.map pairD)) ∧ Q (.own (dicO (mergeP [] l))) e) : wDictP w env Q := h
end
end Fx

/-! min, max, sum of a list of whole numbers; abs -/
namespace Fx
open PySem PySem.Spec PyProof.Rows L2 Evl Lk
theorem fz_intsV {K : PySem.W.Frag} {H : Hp} : ∀ {ns : List Int} {vs : List V}, FzL K H vs (ns.map D.int) → vs = ns.map V.int
  | [], _, h => by cases h; rfl
  | n :: ns, _, h => by
    cases h with
    | cons a b =>
      rw [fz_intsV b]
      cases a
      rfl
def cMinL : OpC
  | [.lst ds], Q => ∃ ns : List Int, ds = ns.map D.int ∧ 0 < ns.length ∧ ∀ m, m ∈ ns → (∀ y, y ∈ ns → m ≤ y) → Q (.int m)
  | _, _ => False
def cMaxL : OpC
  | [.lst ds], Q => ∃ ns : List Int, ds = ns.map D.int ∧ 0 < ns.length ∧ ∀ m, m ∈ ns → (∀ y, y ∈ ns → y ≤ m) → Q (.int m)
  | _, _ => False
section
variable {X : Cx} {G : Gx}
theorem cax_minL (hc : X.calm = true) (hK : X.K = G.K := by rfl) : CaX X G (.builtin "min") cMinL := by
  refine ⟨fun pins s σ H xs us Q I rv ⟨T, ds, t, c, q⟩ => ?_, fun a Q Q' i q => ?_⟩
  · unfold cMinL at q
    split at q
    · obtain ⟨ns, e, h0, q⟩ := q
      subst e
      obtain ⟨v, rfl, cv⟩ := cz1 c
      obtain ⟨a, vs, rfl, l, f⟩ := cv
      rw [fz_intsV f] at l
      exact cr_min hc pins s σ H _ us Q I rv ⟨a, ns, rfl, by rw [hK]; exact l, h0, fun m h1 h2 => q m h1 h2 _ H (Ex.refl H) (.int _)⟩
    · exact q.elim
  · unfold cMinL at q ⊢
    split at q
    · obtain ⟨ns, e, h0, q⟩ := q
      exact ⟨ns, e, h0, fun m h1 h2 => i _ (q m h1 h2)⟩
    · exact q.elim
theorem cax_maxL (hc : X.calm = true) (hK : X.K = G.K := by rfl) : CaX X G (.builtin "max") cMaxL := by
  refine ⟨fun pins s σ H xs us Q I rv ⟨T, ds, t, c, q⟩ => ?_, fun a Q Q' i q => ?_⟩
  · unfold cMaxL at q
    split at q
    · obtain ⟨ns, e, h0, q⟩ := q
      subst e
      obtain ⟨v, rfl, cv⟩ := cz1 c
      obtain ⟨a, vs, rfl, l, f⟩ := cv
      rw [fz_intsV f] at l
      exact cr_max hc pins s σ H _ us Q I rv ⟨a, ns, rfl, by rw [hK]; exact l, h0, fun m h1 h2 => q m h1 h2 _ H (Ex.refl H) (.int _)⟩
    · exact q.elim
  · unfold cMaxL at q ⊢
    split at q
    · obtain ⟨ns, e, h0, q⟩ := q
      exact ⟨ns, e, h0, fun m h1 h2 => i _ (q m h1 h2)⟩
    · exact q.elim
end
end Fx

namespace Fx
open PySem PySem.Spec PyProof.Rows L2 Evl Lk NdefX

/-! ### all, any of a generator expression whose elements may call defs -/
section
variable {X : Cx} {G : Gx} {e : Expr} {wi : WI} {cs : List Nat} {kp : Bool} {w : WE}
end
end Fx

/-! Fx61: a dict value is walked: while it is walked its object is known -/
namespace Lk
open PySem PySem.Spec PyProof.Rows L2 Evl
section
variable {X : Cx} {pins : List (Addr × Obj)} {σ : L2.St} {H : Hp} {s : Shared} {a : Addr} {kvs : List (Key × V)} {o : Obj}
theorem inv_freeze (I : Inv X pins σ H s) (h : H a = some (.dK kvs)) : ∃ o, Inv X pins σ (upd H a (.frz o (.dK kvs))) s := by
  have ok := I.hok a _ h
  obtain ⟨o, ho⟩ : ∃ o, s.heap.get? a = some o := by
    obtain ⟨_, _, _, _, o, _, _, e, _⟩ := ok
    exact ⟨o, e⟩
  have ne : ∀ b u, H b = some u → u ≠ .dK kvs → b ≠ a := fun b u e n z => by
    rw [z, h] at e
    cases e
    exact n rfl
  have nn : ∀ b, H b = none → b ≠ a := fun b e z => by rw [z, h] at e; cases e
  refine ⟨o, I.ok, I.os, I.bare, ⟨I.base.keep, I.base.slot, fun b ob q n hx => ?_, I.base.there, fun b xs e => ?_, fun b ob u e => ?_, fun b ps e => ?_⟩, I.loc, I.cell, ?_, fun x c e => ?_, fun p hp => ?_, fun b u e => ?_, I.len⟩
  · have e := I.base.free b ob q n hx
    rw [upd_ne (nn b e)]
    exact e
  · have e := I.base.tups b xs e
    rw [upd_ne (ne b _ e nofun)]
    exact e
  · have e := I.base.frzs b ob u e
    rw [upd_ne (ne b _ e nofun)]
    exact e
  · obtain ⟨more, e⟩ := I.base.tbls b ps e
    exact ⟨more, by rw [upd_ne (ne b _ e nofun)]; exact e⟩
  · rw [upd_ne (nn _ I.free)]
    exact I.free
  · rw [upd_ne (nn _ (I.freeC x c e))]
    exact I.freeC x c e
  · obtain ⟨h1, h2, h3⟩ := I.pin p hp
    exact ⟨h1, by rw [upd_ne (nn _ h2)]; exact h2, h3⟩
  · by_cases hb : b = a
    · rw [hb, upd_same] at e
      cases e
      rw [hb]
      refine ⟨ho, ok.stay (fun _ _ _ q => q) (fun b e => ?_) fun b xs e => ?_⟩
      · rw [upd_ne (ne b _ e nofun)]; exact e
      · rw [upd_ne (ne b _ e nofun)]; exact e
    · rw [upd_ne hb] at e
      refine (I.hok b u e).stay (fun _ _ _ q => q) (fun c e => ?_) fun c xs e => ?_
      · rw [upd_ne (ne c _ e nofun)]; exact e
      · rw [upd_ne (ne c _ e nofun)]; exact e
theorem inv_thaw (I : Inv X pins σ H s) (h : H a = some (.frz o (.dK kvs))) (n0 : ∀ ob u, X.H_0 a ≠ some (.frz ob u)) : Inv X pins σ (upd H a (.dK kvs)) s := by
  have ok : ObjOk X.prog X.w H s.heap a (.frz o (.dK kvs)) := I.hok a _ h
  have ne : ∀ b u, H b = some u → u ≠ .frz o (.dK kvs) → b ≠ a := fun b u e n z => by
    rw [z, h] at e
    cases e
    exact n rfl
  have nn : ∀ b, H b = none → b ≠ a := fun b e z => by rw [z, h] at e; cases e
  refine ⟨I.ok, I.os, I.bare, ⟨I.base.keep, I.base.slot, fun b ob q n hx => ?_, I.base.there, fun b xs e => ?_, fun b ob u e => ?_, fun b ps e => ?_⟩, I.loc, I.cell, ?_, fun x c e => ?_, fun p hp => ?_, fun b u e => ?_, I.len⟩
  · have e := I.base.free b ob q n hx
    rw [upd_ne (nn b e)]
    exact e
  · have e := I.base.tups b xs e
    rw [upd_ne (ne b _ e nofun)]
    exact e
  · have e' := I.base.frzs b ob u e
    have hb : b ≠ a := fun z => n0 ob u (by rw [← z]; exact e)
    rw [upd_ne hb]
    exact e'
  · obtain ⟨more, e⟩ := I.base.tbls b ps e
    exact ⟨more, by rw [upd_ne (ne b _ e nofun)]; exact e⟩
  · rw [upd_ne (nn _ I.free)]
    exact I.free
  · rw [upd_ne (nn _ (I.freeC x c e))]
    exact I.freeC x c e
  · obtain ⟨h1, h2, h3⟩ := I.pin p hp
    exact ⟨h1, by rw [upd_ne (nn _ h2)]; exact h2, h3⟩
  · by_cases hb : b = a
    · rw [hb, upd_same] at e
      cases e
      rw [hb]
      have ok2 : ObjOk X.prog X.w H s.heap a (.dK kvs) := ok.2
      refine ok2.stay (fun _ _ _ q => q) (fun b e => ?_) fun b xs e => ?_
      · rw [upd_ne (ne b _ e nofun)]; exact e
      · rw [upd_ne (ne b _ e nofun)]; exact e
    · rw [upd_ne hb] at e
      refine (I.hok b u e).stay (fun _ _ _ q => q) (fun c e => ?_) fun c xs e => ?_
      · rw [upd_ne (ne c _ e nofun)]; exact e
      · rw [upd_ne (ne c _ e nofun)]; exact e
/-- the dict at a is known while e runs -/
def tFz (a : Addr) (t : TE) : TE := fun σ H Q => ∃ kvs, H a = some (.dK kvs) ∧ ∀ o, t σ (upd H a (.frz o (.dK kvs))) fun v H' => H' a = some (.frz o (.dK kvs)) ∧ Q v (upd H' a (.dK kvs))
theorem pe_fz {e : Expr} {t : TE} (h : PE X e t) : PE X e (fun σ H Q => ∃ a, tFz a t σ H Q) := by
  refine ⟨fun pins s σ H Q I ⟨a, kvs, ha, q⟩ => ?_⟩
  obtain ⟨o, I2⟩ := inv_freeze I ha
  refine thn (h.run pins s σ _ _ I2 (q o)) fun v s' ⟨x, H', I', r, e, q⟩ => ⟨x, _, inv_thaw I' e fun ob u z => ?_, r, q⟩
  have := I.base.frzs a ob u z
  rw [ha] at this
  cases this
end
end Lk

namespace Fx
open PySem PySem.Spec PyProof.Rows L2 Evl Lk

/-! ### a dict value while it is walked -/
def Sim (H H' : Hp) : Prop := ∀ b u, H b = some u → H' b = some u ∨ (∃ ob kvs, u = .dK kvs ∧ H' b = some (.frz ob (.dK kvs))) ∨ (∃ ob kvs, u = .frz ob (.dK kvs) ∧ H' b = some (.dK kvs))
section
variable {K : PySem.W.Frag} {T : Addr → Prop} {H H' : Hp} {a : Addr}
theorem sim_hid (s : Sim H H') : Sim (hid T H) (hid T H') := fun b u e => by
  obtain ⟨h, n⟩ := hid_some e
  rcases s b u h with z | ⟨ob, kvs, rfl, z⟩ | ⟨ob, kvs, rfl, z⟩
  · exact .inl (hid_of z n)
  · exact .inr (.inl ⟨ob, kvs, rfl, hid_of z n⟩)
  · exact .inr (.inr ⟨ob, kvs, rfl, hid_of z n⟩)
theorem sim_at {u : HO} (s : Sim H H') (h : H a = some u) (n1 : ∀ kvs, u ≠ .dK kvs) (n2 : ∀ ob kvs, u ≠ .frz ob (.dK kvs)) : H' a = some u := by
  rcases s a u h with z | ⟨ob, kvs, e, _⟩ | ⟨ob, kvs, e, _⟩
  · exact z
  · exact absurd e (n1 _)
  · exact absurd e (n2 _ _)
theorem rd_sim {u : HO} (s : Sim H H') (n1 : ∀ kvs, u ≠ .dK kvs) (n2 : ∀ ob kvs, u ≠ .frz ob (.dK kvs)) (h : Rd H a u) : Rd H' a u := by
  rcases h with h | ⟨o, h⟩
  · exact .inl (sim_at s h n1 n2)
  · refine .inr ⟨o, sim_at s h (fun _ e => by cases e) fun ob kvs e => ?_⟩
    cases e
    exact n1 _ rfl
theorem rd_simD {kvs : List (Key × V)} (s : Sim H H') (h : Rd H a (.dK kvs)) : Rd H' a (.dK kvs) := by
  rcases h with h | ⟨o, h⟩
  · rcases s a _ h with z | ⟨ob, k2, e, z⟩ | ⟨ob, k2, e, z⟩
    · exact .inl z
    · cases e; exact .inr ⟨ob, z⟩
    · cases e
  · rcases s a _ h with z | ⟨ob, k2, e, z⟩ | ⟨ob, k2, e, z⟩
    · exact .inr ⟨o, z⟩
    · cases e
    · cases e; exact .inl z
theorem sql_sim {xs : List V} (s : Sim H H') (h : SqL K H a xs) : SqL K H' a xs := by
  rcases h with h | h
  · exact .inl (rd_sim (u := .lst xs) s (fun _ e => by cases e) (fun _ _ e => by cases e) h)
  · exact .inr h
theorem sqt_sim {xs : List V} (s : Sim H H') (h : SqT K H a xs) : SqT K H' a xs := by
  rcases h with h | h
  · exact .inl (rd_sim (u := .tup xs) s (fun _ e => by cases e) (fun _ _ e => by cases e) h)
  · exact .inr h
theorem RowR.sim {d : Option Addr} (e : Sim H H') : ∀ {r : Option Int}, RowR H d r → RowR H' d r
  | none, h => h
  | some _, ⟨dd, h1, h2⟩ => ⟨dd, h1, sim_at e h2 (fun _ e => by cases e) (fun _ _ e => by cases e)⟩
mutual
theorem Fz.sim (e : Sim H H') : ∀ {d : D} {v : V}, Fz K H v d → Fz K H' v d
  | .non, _, h => by cases h; exact .non
  | .bl b, _, h => by cases h; exact .bl b
  | .int i, _, h => by cases h; exact .int i
  | .str x, _, h => by cases h; exact .str x
  | .ty (.bt n), _, h => by cases h; exact .ty n
  | .ty (.cls C), _, h => by cases h; exact .cls C
  | .ty (.exc C r), _, h => by cases h with | exc a b => exact .exc (sim_at e a (fun _ e => by cases e) (fun _ _ e => by cases e)) (b.sim e)
  | .lst ds, _, h => by cases h with | lst a b => exact .lst (sql_sim e a) (FzL.sim e b)
  | .tup ds, _, h => by cases h with | tup a b => exact .tup (sqt_sim e a) (FzL.sim e b)
  | .dic ks ds, _, h => by cases h with | dic a l b => exact .dic (rd_simD e a) l (FzL.sim e b)
theorem FzL.sim (e : Sim H H') : ∀ {ds : List D} {vs : List V}, FzL K H vs ds → FzL K H' vs ds
  | [], _, h => by cases h; exact .nil
  | d :: ds, _, h => by cases h with | cons a b => exact .cons (Fz.sim e a) (FzL.sim e b)
end
mutual
theorem Ow.sim (e : Sim (hid T H) (hid T H')) : ∀ {o : O} {v : V} {fp : List Addr}, (∀ a ∈ fp, T a → H' a = H a) → Ow K T H o v fp → Ow K T H' o v fp
  | .f d, _, _, _, h => by cases h with | f a => exact .f (a.sim e)
  | .lst ds, _, _, k, h => by cases h with | lst a b c => exact .lst a ((k _ (by simp) a).trans b) (c.sim e)
  | .dic ks os, _, _, k, h => by cases h with | dic a b l c n => exact .dic a ((k _ (by simp) a).trans b) l (OwL.sim e (fun x hx => k x (List.mem_cons_of_mem _ hx)) c) n
  | .ins C ns os, _, _, k, h => by cases h with | ins a b l c n => exact .ins a ((k _ (by simp) a).trans b) l (OwL.sim e (fun x hx => k x (List.mem_cons_of_mem _ hx)) c) n
theorem OwL.sim (e : Sim (hid T H) (hid T H')) : ∀ {os : List O} {vs : List V} {fp : List Addr}, (∀ a ∈ fp, T a → H' a = H a) → OwL K T H os vs fp → OwL K T H' os vs fp
  | [], _, _, _, h => by cases h; exact .nil
  | o :: os, _, _, k, h => by cases h with
    | cons a b d => exact .cons (Ow.sim e (fun x hx => k x (List.mem_append_left _ hx)) a) (OwL.sim e (fun x hx => k x (List.mem_append_right _ hx)) b) d
end
/-- while it is walked -/
def gZ (G : Gx) (T : Addr → Prop) (H : Hp) (P : Addr → Prop) (σ : L2.St) (i : Nat) : Gx := ⟨G.K, G.tabs, T, H, P, σ, fun j => (j == i) || G.prot j, fun _ _ => False, fun _ => none⟩
def FzAt (i : Nat) (T : Addr → Prop) (H : Hp) (P : Addr → Prop) (σ : L2.St) : Prop := ∃ a o kvs, σ[i]? = some (some (.ref a)) ∧ H a = some (.frz o (.dK kvs)) ∧ ¬ T a ∧ ¬ P a
structure Zw (T : Addr → Prop) (H Hz : Hp) (th : Hp → Hp) (a : Addr) (fo : HO) : Prop where
  at_ : Hz a = some fo
  nt : ¬ T a
  ha : H a ≠ none
  sim : Sim H Hz
  eq : ∀ b, b ≠ a → Hz b = H b
  thEq : ∀ H' b, b ≠ a → th H' b = H' b
  thSim : ∀ H', H' a = some fo → Sim H' (th H')
  thAt : ∀ H', H' a = some fo → th H' a = H a
theorem zw_id {fo : HO} (h : H a = some fo) (n : ¬ T a) : Zw T H H id a fo := ⟨h, n, by rw [h]; exact nofun, fun b u e => .inl e, fun _ _ => rfl, fun _ _ _ => rfl, fun _ _ _ _ e => .inl e, fun _ e => e.trans h.symm⟩
theorem zw_fz {kvs : List (Key × V)} {o : Obj} (h : H a = some (.dK kvs)) (n : ¬ T a) : Zw T H (upd H a (.frz o (.dK kvs))) (fun H' => upd H' a (.dK kvs)) a (.frz o (.dK kvs)) where
  at_ := upd_same
  nt := n
  ha := by rw [h]; exact nofun
  sim := fun b u e => by
    by_cases hb : b = a
    · rw [hb] at e ⊢
      rw [h] at e
      cases e
      exact .inr (.inl ⟨o, kvs, rfl, upd_same⟩)
    · exact .inl (by rw [upd_ne hb]; exact e)
  eq := fun b hb => upd_ne hb
  thEq := fun H' b hb => upd_ne hb
  thSim := fun H' e b u q => by
    by_cases hb : b = a
    · rw [hb] at q ⊢
      rw [e] at q
      cases q
      exact .inr (.inr ⟨o, kvs, rfl, upd_same⟩)
    · exact .inl (by rw [upd_ne hb]; exact q)
  thAt := fun H' e => by rw [upd_same, h]
end
section
variable {G : Gx} {T T' : Addr → Prop} {H Hz H' : Hp} {σ σ' : L2.St} {env env' : Env} {F F' : Nat → List Addr} {th : Hp → Hp} {a : Addr} {fo : HO} {i : Nat}
theorem slr_sim {G' : Gx} {s : Sl} {v : V} {fp : List Addr} (hK : G'.K = G.K) (e : Sim (hid T H) (hid T H')) (k : ∀ a ∈ fp, T a → H' a = H a) (h : SlR G T H s v fp) : SlR G' T H' s v fp := by
  cases s with
  | f d => exact ⟨hK ▸ h.1.sim e, h.2⟩
  | own o =>
    show Ow G'.K T H' o v fp
    rw [hK]
    exact Ow.sim (K := G.K) e k h
  | vw o =>
    show Ow G'.K T H' o v fp
    rw [hK]
    exact Ow.sim (K := G.K) e k h
theorem re_inZ (r : RE G T H σ env F) (z : Zw T H Hz th a fo) : RE (gZ G T Hz (OwnP env F) σ i) T Hz σ env F := by
  have nt : ∀ b, T b → b ≠ a := fun b h e => z.nt (by rw [← e]; exact h)
  have trk : Trk T Hz := fun b h => by rw [z.eq b (nt b h)]; exact r.trk b h
  exact ⟨trk, fun p hp => ⟨sim_at z.sim (r.tab p hp).1 (fun _ e => by cases e) (fun _ _ e => by cases e), (r.tab p hp).2⟩, fun j s hj => by
      obtain ⟨v, h1, h2⟩ := r.slot j s hj
      exact ⟨v, h1, slr_sim rfl (sim_hid z.sim) (fun b _ h => z.eq b (nt b h)) h2⟩, r.dis, .refl trk, fun _ h => .inl h, trk, fun _ _ => rfl, r.len, ex_none⟩
theorem chg_backZ (r : RE G T H σ env F) (z : Zw T H Hz th a fo) (c : Chg T Hz (OwnP env F) T' H') : H' a = some fo ∧ ¬ T' a ∧ Chg T H (OwnP env F) T' (th H') := by
  have np : ¬ OwnP env F a := fun h => z.nt (r.sub a h)
  have e := c.keep a fo z.at_ np
  have nt' : ¬ T' a := fun h => by
    rcases c.tf a h with q | q
    · exact z.nt q
    · rw [z.at_] at q; cases q
  refine ⟨e, nt', fun b u hb n => ?_, c.tk, fun b hb => ?_, fun b hb => ?_, fun b hb => ?_⟩
  · by_cases q : b = a
    · rw [q] at hb ⊢
      rw [z.thAt H' e]
      exact hb
    · rw [z.thEq H' b q]
      exact c.keep b u (by rw [z.eq b q]; exact hb) n
  · rcases c.tf b hb with q | q
    · exact .inl q
    · refine .inr ?_
      by_cases y : b = a
      · rw [y] at hb
        exact absurd hb nt'
      · rw [← z.eq b y]
        exact q
  · have y : b ≠ a := fun y => nt' (by rw [← y]; exact hb)
    rw [z.thEq H' b y]
    exact c.tr b hb
  · by_cases y : b = a
    · rw [y, z.thAt H' e]
      exact z.ha
    · rw [z.thEq H' b y]
      exact c.dom b (by rw [z.eq b y]; exact hb)
theorem re_backZ (r : RE G T H σ env F) (z : Zw T H Hz th a fo) (r' : RE (gZ G T Hz (OwnP env F) σ i) T' H' σ' env' F') : H' a = some fo ∧ ¬ T' a ∧ Chg T H (OwnP env F) T' (th H') ∧ RE G T' (th H') σ' env' F' := by
  obtain ⟨e, nt', c⟩ := chg_backZ r z r'.st
  refine ⟨e, nt', c, c.tr, fun p hp => ⟨sim_at (z.thSim H' e) (r'.tab p hp).1 (fun _ e => by cases e) (fun _ _ e => by cases e), (r'.tab p hp).2⟩, fun j s hj => ?_, r'.dis, r.st.trans r.t0 c r.ow, fun b hb => ?_, r.t0, fun j hj => ?_, r'.len, r.hx.trans (c.hid r.sub)⟩
  · obtain ⟨v, h1, h2⟩ := r'.slot j s hj
    exact ⟨v, h1, slr_sim rfl (sim_hid (z.thSim H' e)) (fun b _ h => z.thEq H' b fun y => nt' (by rw [← y]; exact h)) h2⟩
  · rcases r'.ow b hb with q | q
    · exact r.ow b q
    · refine .inr ?_
      have y : b ≠ a := fun y => by
        have q : Hz b = none := q
        rw [y, z.at_] at q; cases q
      have hb2 : H b = none := by rw [← z.eq b y]; exact q
      cases h0 : G.H0 b with
      | none => rfl
      | some u => exact absurd hb2 (r.st.dom b (by rw [h0]; exact nofun))
  · have p := r'.pin j (by show ((j == i) || G.prot j) = true; rw [hj]; simp)
    exact p.trans (r.pin j hj)
theorem noneZ (z : Zw T H Hz th a fo) {b : Addr} (h : Hz b = none) : H b = none := by
  have y : b ≠ a := fun y => by rw [y, z.at_] at h; cases h
  rw [← z.eq b y]
  exact h
theorem att_backZ (r : RE G T H σ env F) (z : Zw T H Hz th a fo) (a' : Att (gZ G T Hz (OwnP env F) σ i) σ T Hz env F T' H' env' F') : H' a = some fo ∧ Att G σ T H env F T' (th H') env' F' := by
  obtain ⟨e, _, c, re⟩ := re_backZ r z a'.re
  exact ⟨e, c, re, fun b hb => (a'.own b hb).imp id (noneZ z), a'.vw⟩
theorem res_backZ {s : Sl} {v : V} {fr : List Addr} (z : Zw T H Hz th a fo) (e : H' a = some fo) (nt' : ¬ T' a) (q : Res (gZ G T Hz (OwnP env F) σ i) T Hz env F T' H' env' F' s v fr) : Res G T H env F T' (th H') env' F' s v fr :=
  ⟨slr_sim rfl (sim_hid (z.thSim H' e)) (fun b _ h => z.thEq H' b fun y => nt' (by rw [← y]; exact h)) q.rel, q.dis, fun o eo b hb => (q.from_ o eo b hb).imp id (noneZ z)⟩
end
section
variable {X : Cx} {G : Gx} {e : Expr} {st : Stmt} {i : Nat} {w : WE} {ws : WS}
def wFz (i : Nat) (w : WE) : WE := fun env Q => (∃ ks ds, env[i]? = some (some (.f (.dic ks ds)))) ∧ w env Q
theorem fzAt_any (i : Nat) : FzAt i (fun _ => False) (fun _ => some (.frz ({ cls := .none, data := .fields #[] } : Obj) (.dK []))) (fun _ => False) (List.replicate (i + 1) (some (.ref 0))) := ⟨0, _, [], by rw [List.getElem?_replicate]; simp, rfl, id, id⟩
/-- where the dict stands -/
theorem dic_at {T : Addr → Prop} {H : Hp} {σ : L2.St} {env : Env} {F : Nat → List Addr} {ks : List Key} {ds : List D} (r : RE G T H σ env F) (hi : env[i]? = some (some (.f (.dic ks ds)))) :
    ∃ a kvs, σ[i]? = some (some (.ref a)) ∧ ¬ T a ∧ (H a = some (.dK kvs) ∨ ∃ o, H a = some (.frz o (.dK kvs))) := by
  obtain ⟨v, h1, h2⟩ := r.slot i _ hi
  have fz : Fz G.K (hid T H) v (.dic ks ds) := h2.1
  cases fz with
  | dic q l f =>
    rcases q with q | ⟨o, q⟩
    · obtain ⟨q1, q2⟩ := hid_some q
      exact ⟨_, _, h1, q2, .inl q1⟩
    · obtain ⟨q1, q2⟩ := hid_some q
      exact ⟨_, _, h1, q2, .inr ⟨o, q1⟩⟩
theorem ge_fz (h : ∀ T H P σ, FzAt i T H P σ → GE X (gZ G T H P σ i) e w) : GE X G e (wFz i w) := by
  have mw : MonoE w := (h _ _ _ _ (fzAt_any i)).mono
  have pe0 : PE X e (fun σ H Q => ∃ T0 H0 P0 σ0, FzAt i T0 H0 P0 σ0 ∧ tW (gZ G T0 H0 P0 σ0 i) w σ H Q) := ⟨fun pins s σ H Q I ⟨T0, H0, P0, σ0, f, q⟩ => (h T0 H0 P0 σ0 f).pe.run pins s σ H Q I q⟩
  refine ⟨⟨fun pins s σ H Q I ⟨T, env, F, r, ⟨ks, ds, hi⟩, q⟩ => ?_⟩, fun env Q Q' i ⟨h, q⟩ => ⟨h, mw _ _ _ i q⟩⟩
  obtain ⟨a, kvs, h1, nT, hk⟩ := dic_at r hi
  have nP : ¬ OwnP env F a := fun z => nT (r.sub a z)
  rcases hk with hk | ⟨o, hk⟩
  · refine (pe_fz pe0).run pins s σ H Q I ⟨a, kvs, hk, fun o => ?_⟩
    have z : Zw T H _ _ a _ := zw_fz (o := o) hk nT
    refine ⟨T, upd H a (.frz o (.dK kvs)), OwnP env F, σ, ⟨a, o, kvs, h1, upd_same, nT, nP⟩, T, env, F, re_inZ r z, mw _ _ _ (fun s1 e1 q v T1 H1 F1 f1 a1 z1 => ?_) q⟩
    obtain ⟨e2, a2⟩ := att_backZ r z a1
    obtain ⟨_, nt', _⟩ := re_backZ r z a1.re
    exact ⟨e2, q v T1 _ F1 f1 a2 (res_backZ z e2 nt' z1)⟩
  · have z : Zw T H _ _ a _ := zw_id hk nT
    refine pe0.run pins s σ H Q I ⟨T, H, OwnP env F, σ, ⟨a, o, kvs, h1, hk, nT, nP⟩, T, env, F, re_inZ r z, mw _ _ _ (fun s1 e1 q v T1 H1 F1 f1 a1 z1 => ?_) q⟩
    obtain ⟨e2, a2⟩ := att_backZ r z a1
    obtain ⟨_, nt', _⟩ := re_backZ r z a1.re
    exact q v T1 _ F1 f1 a2 (res_backZ z e2 nt' z1)
/-! its keys -/
end
end Fx

/-! Fx63: dicts of values: ==, pop, looks at an owned one -/
namespace Fx
open PySem PySem.Spec PyProof.Rows L2 Evl Lk
section
variable {X : Cx} {G : Gx}
end
/-! a dict that is looked at, whoever owns it -/
section
variable {X : Cx} {G : Gx} {o i e : Expr} {w w1 w2 : WE} {pos p : Pos} {j : Nat}
end
end Fx

/-! Fx64: for k, v in d.items(): a value's, an owned dict's -/
namespace Fx
open PySem PySem.Spec PyProof.Rows L2 Evl Lk
section
variable {K : PySem.W.Frag} {T : Addr → Prop} {H : Hp} {a : Addr} {o : Obj}
theorem Zp.at {kvs : List (Key × V)} {l : List (Key × D)} (z : Zp K H kvs l) : ∀ {i : Nat} {k : Key} {v : V}, kvs[i]? = some (k, v) → ∃ d, l[i]? = some (k, d) ∧ Fz K H v d := by
  induction z with
  | nil => intro i k v h; cases h
  | cons f z ih =>
    intro i k v h
    cases i with
    | zero => cases h; exact ⟨_, rfl, f⟩
    | succ i => exact ih (by simpa using h)
theorem Zp.ex {H' : Hp} {kvs : List (Key × V)} {l : List (Key × D)} (z : Zp K H kvs l) (e : Ex H H') : Zp K H' kvs l := by
  induction z with
  | nil => exact .nil
  | cons f z ih => exact .cons (f.ex e) ih
end
section
variable {X : Cx} {G : Gx} {e : Expr} {i : Nat} {elts : List Expr} {kk : Nat} {tpos apos cpos : Pos}
end
/-! the items of an owned dict: while they are walked its slot is empty -/
section
variable {X : Cx} {G : Gx} {tg iter e : Expr} {i : Nat} {elts : List Expr} {kk : Nat} {tpos apos cpos pos : Pos} {ds : List D}
end
section
variable {X : Cx} {G : Gx} {st : Stmt} {i : Nat} {ws : List (Key × D) → WS}
end
end Fx

/-! Fx65: enumerate(list, start=k); [a, b][i] of owned things; isinstance of a thing at a slot; for over dict values as statements -/
namespace Lk
open PySem PySem.Spec PyProof.Rows L2 Evl
end Lk
namespace Fx
open PySem PySem.Spec PyProof.Rows L2 Evl Lk
section
variable {X : Cx} {G : Gx} {wa : WA} {pos : Pos}
/-! [a, b, ..][i], what stands there is owned -/
/-! isinstance(x, t), x a name whatever it holds -/
end
end Fx

/-! Fx66: for over dict values as statements; what is left to show of Fx60 to Fx65 -/
namespace Fx
open PySem PySem.Spec PyProof.Rows L2 Evl Lk
section
variable {X : Cx} {G : Gx} {tg e : Expr} {i : Nat} {g : WG} {ws : WS} {body : List Stmt} {pos : Pos} {elts : List Expr} {kk : Nat} {tpos apos cpos : Pos}
end
section
variable {env : Env} {Q : Sl → Env → Prop} {QL : List D → Env → Prop} {w w2 : WE} {wa : WA} {wi : WI} {v : WP} {D0 : WEnds} {i : Nat} {cs : List Nat} {g : WG} {ws : WS} {l : List (Key × D)} {o : OpC}
theorem x_fz (h0 : env[i]? = some (some (.f (dicD l)))) (h : w env Q) : wFz i w env Q := ⟨⟨_, _, h0⟩, h⟩
end
end Fx

namespace Fx
open PySem PySem.Spec PyProof.Rows L2 Evl Lk
/-! ### text.startswith(text) -/
section
variable {X : Cx} {G : Gx} {e : Expr} {w1 w2 : WE} {env : Env} {Q : Sl → Env → Prop}
end
end Fx

namespace Fx
open PySem PySem.Spec PyProof.Rows L2 Evl Lk
/-! ### xs.insert(i, e), xs owned -/
section
variable {X : Cx} {G : Gx} {wd : WAD}
end
/-! ### x + e, lists, the sum owned -/
section
variable {X : Cx} {G : Gx} {w1 w2 : WE} {a b : Expr} {pos : Pos}
end
/-! ### a == b, of dicts or of other things -/
section
variable {X : Cx} {G : Gx}
end
end Fx

namespace Fx
open PySem PySem.Spec PyProof.Rows L2 Evl Lk
/-! ### text.count(text) -/
section
variable {X : Cx} {G : Gx} {e : Expr} {w1 w2 : WE} {env : Env} {Q : Sl → Env → Prop}
end
end Fx

/-! Fx70: d.values() of a dict value, text.index(text) -/
namespace Fx
open PySem PySem.Spec PyProof.Rows L2 Evl Lk
section
variable {K : PySem.W.Frag} {a : Addr} {o : Obj}
theorem itd_vals {kvs : List (Key × V)} {l : List (Key × D)} : ItD K (Itd a o kvs) (fun T H => hid T H a = some (.frz o (.dK kvs)) ∧ Zp K (hid T H) kvs l) (l.map fun p => p.2) where
  go := fun i T H t h hi => ⟨⟨(hid_some h.1).1, by rw [h.2.length]; simpa using hi⟩, fun v H' ⟨e, k, hk⟩ => by
    subst e
    obtain ⟨d, hd, fz⟩ := h.2.at hk
    exact ⟨d, by rw [List.getElem?_map, hd] <;> rfl, Ex.refl _, fz⟩⟩
  stop := fun i T H h hi => ⟨(hid_some h.1).1, by rw [h.2.length, hi, List.length_map]; exact Nat.le_refl _⟩
  keep := fun T H T' H' h e => ⟨e _ _ h.1, h.2.ex e⟩
end
/-- the values of a dict value at a slot -/
def wiVal (i : Nat) : WI := fun env Q => ∃ l, env[i]? = some (some (.f (dicD l))) ∧ Q (l.map fun p => p.2) env
section
variable {X : Cx} {G : Gx} {e tg : Expr} {i : Nat} {apos cpos : Pos} {w1 w2 : WE}
theorem gi_values {T : Addr → Prop} {H : Hp} {P : Addr → Prop} {σ : L2.St} (hz : FzAt i T H P σ) (hv : PE X e (tVar i)) (hbase : attributeBase e "values" X.env (eval e X.env) = eval e X.env := by rfl) (hline : (apos.endLine == cpos.line) = true := by rfl) :
    GI X (gZ G T H P σ i) tg (.Call (.Attribute e "values" apos) [] [] cpos) (wiVal i) := by
  refine ⟨pi_imp (pi_values hv hbase hline) fun σ' H' R ⟨T1, env, F, r, l, hi, q⟩ => ?_, fun env Q Q' j ⟨l, h, q⟩ => ⟨l, h, j _ _ q⟩⟩
  obtain ⟨a, o, kvs, h1, h2, h3, h4⟩ := hz
  obtain ⟨v, e1, e2⟩ := r.slot i _ hi
  have p : σ'[i]? = σ[i]? := r.pin i (by show ((i == i) || G.prot i) = true; simp)
  rw [p, h1] at e1
  cases e1
  have ha : H' a = some (.frz o (.dK kvs)) := r.st.keep a _ h2 h4
  have fz : Fz G.K (hid T1 H') (.ref a) (dicD l) := e2.1
  obtain ⟨a', kvs', ea, rd, zp⟩ := fz_dicD fz
  cases ea
  have hh : hid T1 H' a = some (.frz o (.dK kvs)) := by
    rcases rd with z | ⟨o', z⟩
    · rw [(hid_some z).1] at ha; cases ha
    · exact hid_of ha (hid_some z).2
  have ek : kvs = kvs' := by
    rcases rd with z | ⟨o', z⟩
    · rw [hh] at z; cases z
    · rw [hh] at z; cases z; rfl
  subst ek
  exact ⟨.ref a, by rw [p]; exact h1, a, o, kvs, rfl, ha, q _ T1 H' F _ (.refl r) itd_vals ⟨hh, zp⟩⟩
theorem x_iVal {env : Env} {QL : List D → Env → Prop} {l : List (Key × D)} (h0 : env[i]? = some (some (.f (dicD l)))) (h : QL (l.map fun p => p.2) env) : wiVal i env QL := ⟨l, h0, h⟩
end
end Fx

/-! Fx71: sorted(list of texts), owned -/
namespace Fx
open PySem PySem.Spec PyProof.Rows L2 Evl Lk
section
variable {X : Cx} {G : Gx} {e : Expr} {w : WE} {p pos : Pos}
end
end Fx

/-! Fx72: xs.extend(e), xs owned, e a new list -/
namespace Fx
open PySem PySem.Spec PyProof.Rows L2 Evl Lk
def wExt (k : Nat) (w : WE) : WS := fun D env => (∃ s, env[k]? = some (some (.own (.lst s)))) ∧ w env fun r e => ∃ zs ds : List Fx.D, r = .own (.lst zs) ∧ e[k]? = some (some (.own (.lst ds))) ∧ ds.length + zs.length ≤ sizeLine ∧ D.nx (e.set k (some (.own (.lst (ds ++ zs)))))
section
variable {X : Cx} {G : Gx} {w : WE}
theorem gs_extend {o e : Expr} {k : Nat} {apos cpos pos : Pos} (ho : PE X o (tVar k)) (he : GE X G e w) (hs : swapsWith (.Call (.Attribute o "extend" apos) [e] [] cpos) none pos.line X.env = pure false := by rfl)
    (hbase : attributeBase o "extend" X.env (eval o X.env) = eval o X.env := by rfl)
    (hfew : ((backTo cpos (starEach [e] X.env)).all (fun x => !x.1) && (backToKw cpos (keywordEach [] X.env)).all (fun x => x.1.isSome) && decide (([e] : List Expr).length + ([] : List Keyword).length + (if ([] : List Keyword).isEmpty then 0 else 1) < 30)) = true := by rfl)
    (hline : (apos.endLine == cpos.line) = true := by rfl) (hst : starEach [e] X.env = (false, eval e X.env) :: starEach [] X.env := by rfl) (hpl : (backTo cpos (starEach [] X.env)).any (·.1) = false := by rfl) :
    GS X G (.Expr (.Call (.Attribute o "extend" apos) [e] [] cpos) pos) (wExt k w) := by
  refine ⟨ps_imp (ps_expr (pe_bm PySem.F.plainAttrs_list PySem.F.slot_list_extend PySem.F.type_list_extend mt_extend ho (pa_cons he.pe pa_nil hst) hbase hfew hline hst hpl) hs) fun D σ H ⟨T, env, F, r, ⟨s0, h0⟩, q⟩ => ?_, fun D D' env l ⟨h0, q⟩ => ⟨h0, he.mono _ _ _ (fun r e ⟨zs, ds, h1, h2, h3, q⟩ => ⟨zs, ds, h1, h2, h3, l.nx _ q⟩) q⟩⟩
  obtain ⟨p0, vs0, s1, hp0, _, _⟩ := own_lst r h0
  refine ⟨_, s1, ?_, T, env, F, r, he.mono _ _ _ (fun s e ⟨zs, ds, h1, h2, h3, q⟩ x T1 H1 F1 f1 a z => ?_) q⟩
  · exact .inl ⟨rfl, vs0, SqL.of hp0⟩
  subst h1
  have rel : Ow G.K T1 H1 (.lst zs) x f1 := z.rel
  cases rel with
  | lst a1 b1 c1 =>
    rename_i p2 ws2
    obtain ⟨p, ws, s2, hp1, fz, upd_⟩ := own_lst a.re h2
    rw [s1] at s2
    cases s2
    have a2 := upd_ (ws ++ ws2) (ds ++ zs) (fz.append c1)
    exact ⟨p0, p2, ws, ws2, rfl, rfl, hp1, b1, by rw [fz.length, c1.length]; exact h3, q σ T1 _ F1 a2.re ((a.chg.hid r.sub).trans (a2.chg.hid a.re.sub))⟩
theorem x_extO {k : Nat} {D : WEnds} {env : Env} {s : List Fx.D} (h0 : env[k]? = some (some (.own (.lst s)))) (h : w env fun r e => ∃ zs ds : List Fx.D, r = .own (.lst zs) ∧ e[k]? = some (some (.own (.lst ds))) ∧ ds.length + zs.length ≤ sizeLine ∧ D.nx (e.set k (some (.own (.lst (ds ++ zs)))))) : wExt k w D env := ⟨⟨s, h0⟩, h⟩
end
end Fx

/-! Fx73: sorted(rows), rows a list or a tuple of alike data; the result owned -/
namespace Fx
open PySem PySem.Spec PyProof.Rows L2 Evl Lk PySem.W
namespace ST
section
variable {prog : Program} {w : World} {A : Around} {E : Value → Shared → Prop} {s : Shared} {κ : PyProof.Rows.KeyKind}
end
section
variable {X : Cx}
end
end ST
section
variable {X : Cx} {G : Gx} {e : Expr} {w : WE} {p pos : Pos}
end
end Fx

/-! Fx74: a built-in function asked in two ways; str of anything, tuples too -/
namespace Fx
open PySem PySem.Spec PyProof.Rows L2 Evl Lk
section
variable {X : Cx} {G : Gx}
end
end Fx

/-! Fx75: dict(zip(texts, values)) -/
namespace Fx
open PySem PySem.Spec PyProof.Rows L2 Evl Lk
section
variable {X : Cx} {G : Gx}
end
end Fx

/-! Fx76: text[::-1] -/
namespace Fx
open PySem PySem.Spec PyProof.Rows L2 Evl Lk
section
variable {X : Cx} {G : Gx} {e : Expr} {w : WE}
end
end Fx

/-! Fx77: a, b = (x, y), stored from the right -/
namespace Fx
open PySem PySem.Spec PyProof.Rows L2 Evl Lk
section
variable {X : Cx} {G : Gx} {wd : WAD}
end
end Fx

/-! Fx78: an owned thing handed on as a value, which its name keeps -/
namespace Fx
open PySem PySem.Spec PyProof.Rows L2 Evl Lk
section
variable {X : Cx} {G : Gx} {e : Expr}
end
end Fx

/-! Fx79: a def called with an owned thing lent as its second value, which stays owned (what comes back is flat) -/
namespace Fx
open PySem PySem.Spec PyProof.Rows L2 Evl Lk
section
variable {X : Cx} {G : Gx} {e e2 : Expr} {x : Str} {k j i : Nat} {tabs : List Addr} {p pos : Pos} {w : WE} {W : WFn}
end
end Fx

/-! Fx80: targets of a pair that are no names: x[i], x[j] = .. -/
namespace Fx
open PySem PySem.Spec PyProof.Rows L2 Evl Lk
section
variable {X : Cx} {G : Gx} {e : Expr} {es : List Expr} {g : WG} {u : WGs}
end
end Fx

/-! Fx81: list(tuple), owned -/
namespace Fx
open PySem PySem.Spec PyProof.Rows L2 Evl Lk
section
variable {X : Cx} {G : Gx} {e : Expr} {w : WE} {p pos : Pos}
end
end Fx

namespace Fx
open PySem PySem.Spec PyProof.Rows L2 Evl Lk
/-! ### d.get(k), k a key or None -/
def leafOf : Key → Leaf
  | .inl i => .num i
  | .inr x => .text x
theorem leaf_of {k : Key} {v : Value} (h : keyIs k v = true) : Leaf.isOf (leafOf k) v = true := by
  rcases keyIs_shape h with ⟨i, t, rfl, rfl⟩ | ⟨x, t, rfl, rfl⟩
  · show decide (i = i) = true
    exact decide_eq_true rfl
  · exact keyIs_str x t
theorem get_none {P : Program} {w : World} {h : Heap} {a : Addr} {vs : List (Key × Value)} (m : h.DictOf (mixKind P w) a vs) : ∃ f : Leaf → Option Value, h.MapOf (leafKind P w) a f ∧ f .none = none := by
  obtain ⟨o, es, ep, ho, hx, hd, hk, hf⟩ := m.mapOf
  refine ⟨fun k => findBy (leafKind P w).is es k, ⟨o, es, ep, ho, hx, hd, fun e he => ?_, fun k => rfl⟩, ?_⟩
  · obtain ⟨k, h1, h2⟩ := hk e he
    refine ⟨leafOf k, leaf_of h1, h2.trans ?_⟩
    cases k <;> rfl
  · show findBy (leafKind P w).is es Leaf.none = none
    rw [findBy_of_findIdx?]
    have : es.findIdx? (fun e => (leafKind P w).is .none e.key) = none := Array.findIdx?_eq_none_iff.mpr fun e he => by
      obtain ⟨k, h1, _⟩ := hk e he
      rcases keyIs_shape h1 with ⟨i, t, _, e1⟩ | ⟨x, t, _, e1⟩ <;> rw [e1] <;> rfl
    rw [this]
def tGetN (td ty : TE) : TE := fun σ H Q => td σ H fun x H1 => ∃ a, x = .ref a ∧ IsD H1 a ∧ ty σ H1 fun y H2 => (∃ o, DGet H2 a y o ∧ Q (o.getD .non) H2) ∨ (y = .non ∧ ∃ kvs, Rd H2 a (.dK kvs) ∧ Q .non H2)
section
variable {X : Cx} {o e : Expr} {apos cpos : Pos} {td ty : TE}
theorem pe_getN (hu : X.A.units + 1 < cLine) (ho : PE X o td) (he : PE X e ty) (m : M1 X o "get" apos e cpos) : PE X (.Call (.Attribute o "get" apos) [e] [] cpos) (tGetN td ty) := by
  refine ⟨fun pins s σ H Q I h => ?_⟩
  refine wpAny_Call_method m.base m.few m.line PySem.F.plainAttrs_dict PySem.F.slot_dict_get PySem.F.type_dict_get ?_
  refine thn (ho.run pins s σ H _ I h) fun u s1 ⟨x, H1, I1, rx, a, ex, d, q1⟩ => ?_
  subst ex
  obtain rfl : u = Value.ref a := rx
  have ⟨t1, t2, _⟩ := isD_at I1 d
  refine ⟨t1, t2, ?_⟩
  rw [m.trees]
  refine Calls.callWith_builtin rfl (Calls.evalArgs_plain (Calls.spliced_cons (thn (he.run pins s1 σ H1 _ I1 q1) fun iv s2 ⟨y, H2, I2, ry, alt⟩ => Calls.spliced_nil ?_)))
  rcases alt with ⟨ov, g, q2⟩ | ⟨ey, kvs, rd, q2⟩
  · exact d_get1 hu I2 g ry fun w' s3 I3 rw' => ⟨_, H2, I3, rw', q2⟩
  · subst ey
    obtain rfl : iv = Value.none := ry
    obtain ⟨_, hd, vs, _, dd⟩ := dk_rd I2.hok rd
    obtain ⟨f, mf, fn⟩ := get_none dd
    refine call_meetsIn PySem.F.slot_dict_get dd.typeIs PySem.F.entry_dict_get (PySem.F.args_dict_get_2 _ _) (meets_dict_get (leafKind X.prog X.w) a (k := Leaf.none) (key := Value.none) rfl hd) ⟨f, mf, ?_⟩
    rw [fn]
    exact ⟨.non, H2, I2.tok _, rfl, q2⟩
end
def keyO : Option Key → D
  | some k => dK k
  | none => .non
def getO (ks : List Key) (ds : List D) : Option Key → D
  | some k => getD ks ds k
  | none => .non
def wGetN (w1 w2 : WE) : WE := fun env Q => w1 env fun r e => ∃ ks ds, r = .f (.dic ks ds) ∧ w2 e fun r2 e2 => ∃ k : Option Key, r2 = .f (keyO k) ∧ Q (.f (getO ks ds k)) e2
section
variable {X : Cx} {G : Gx} {o e : Expr} {w1 w2 : WE} {apos cpos : Pos}
theorem ge_getN (hu : X.A.units + 65 < cLine) (ho : GE X G o w1) (he : GE X G e w2) (m : M1 X o "get" apos e cpos) : GE X G (.Call (.Attribute o "get" apos) [e] [] cpos) (wGetN w1 w2) := by
  refine ⟨pe_imp (pe_getN (by omega) ho.pe he.pe m) fun σ H Q ⟨T, env, F, r, q⟩ => ⟨T, env, F, r, ho.mono _ _ _ (fun s e ⟨ks, ds, hs, q⟩ x T1 H1 F1 f1 a1 z1 => ?_) q⟩, fun env Q Q' i q => ho.mono _ _ _ (fun s e ⟨ks, ds, hs, q⟩ => ⟨ks, ds, hs, he.mono _ _ _ (fun s2 e2 ⟨k, h1, q⟩ => ⟨k, h1, i _ _ q⟩) q⟩) q⟩
  subst hs
  have fz1 : Fz G.K (hid T1 H1) x (.dic ks ds) := z1.rel.1
  cases fz1 with
  | dic l hl f =>
    rename_i a vs
    have un : Rd H1 a (.dK (ks.zip vs)) := by
      rcases l with l | ⟨o, l⟩
      · exact .inl (hid_some l).1
      · exact .inr ⟨o, (hid_some l).1⟩
    have isd : IsD H1 a := .inl ⟨_, un⟩
    refine ⟨a, rfl, isd, T1, e, F1, a1.re, he.mono _ _ _ (fun s2 e2 ⟨k, h1, q⟩ y T2 H2 F2 f2 a2 z2 => ?_) q⟩
    subst h1
    have exx := a2.chg.hid a1.re.sub
    have un2 : Rd H2 a (.dK (ks.zip vs)) := by
      rcases l with l | ⟨o, l⟩
      · exact .inl (hid_some (exx a _ l)).1
      · exact .inr ⟨o, (hid_some (exx a _ l)).1⟩
    cases k with
    | some k =>
      have ey := fz_dK z2.rel.1
      subst ey
      exact .inl ⟨valV (ks.zip vs) k, .inl ⟨_, k, un2, rfl, rfl⟩, q _ T2 H2 F2 [] (a1.trans r.trk a2) (res_f (fz_get (f.ex exx)))⟩
    | none =>
      have fz2 : Fz G.K (hid T2 H2) y .non := z2.rel.1
      cases fz2
      exact .inr ⟨rfl, _, un2, q _ T2 H2 F2 [] (a1.trans r.trk a2) (res_f .non)⟩
end
section
variable {w1 w2 : WE} {env : Env} {Q : Sl → Env → Prop}
theorem x_getN (h : w1 env fun r e => ∃ ks ds, r = .f (.dic ks ds) ∧ w2 e fun r2 e2 => ∃ k : Option Key, r2 = .f (keyO k) ∧ Q (.f (getO ks ds k)) e2) : wGetN w1 w2 env Q := h
end
end Fx

namespace Fx
open PySem PySem.Spec PyProof.Rows L2 Evl Lk
/-! ### {**d, k: v} -/
section
variable {P : Program} {w : World} {κ : Type} [DecidableEq κ] {knd : KeyKind P w κ} {A : Around} {E : Value → Shared → Prop} {s : Shared}
theorem find_none {es : Array DictEntry} {l : List (κ × Value)} (hp : Pairs knd es.toList l) {k : κ} (hn : k ∉ l.map (·.1)) : es.findIdx? (fun e => knd.is k e.key) = none := by
  have h := hp.findIdx k
  have h2 : l.findIdx? (fun kv => decide (kv.1 = k)) = none := List.findIdx?_eq_none_iff.mpr fun x hx => by
    cases e : decide (x.1 = k) with
    | false => rfl
    | true => exact absurd (List.mem_map.mpr ⟨x, hx, of_decide_eq_true e⟩) hn
  rw [h2] at h
  obtain ⟨r⟩ := es
  simpa using h
theorem put_fresh {d : Addr} {l : List (κ × Value)} {k : κ} {key v : Value} {Q : Unit → Shared → Prop} (hkey : knd.is k key = true) (hm : s.heap.DictOf knd d l) (hn : k ∉ l.map (·.1)) (hz : l.length ≤ sizeLine)
    (hQ : ∀ h', h'.DictOf knd d (l ++ [(k, v)]) → Heap.SameBut d s.heap h' → Q () { s with heap := h' }) : wpAny (model P w) A (dictPut d (knd.hash k) key v) Q E s := by
  obtain ⟨o, es, ep, ho, hx, hd, hk, hp, nd⟩ := hm
  have e1 := hp.length
  have e2 : es.toList.length = es.size := Array.length_toList
  unfold dictPut
  refine wpAny_bind (wpAny_dictFind_of hkey ho hd hk ?_)
  rw [find_none hp hn]
  refine wpAny_updateDictKeys (hz := by omega) ho hd (hQ _ ⟨_, _, ep + 1, Heap.get?_update_self _ ho (Obj.isFreed_of_dict (Obj.data_mapDictKeys hd _)), hx.mapDictKeys _, Obj.data_mapDictKeys hd _, hk.push hkey _, ?_, ?_⟩ (Heap.SameBut.update ..))
  · rw [Array.toList_push]
    exact hp.append hkey _ _
  · rw [List.map_append]
    exact List.nodup_append.mpr ⟨nd, List.nodup_cons.mpr ⟨nofun, .nil⟩, fun x hx y hy e => hn (by have e2 : y = k := List.mem_singleton.mp hy; rw [← e2, ← e]; exact hx)⟩
theorem pairs_at {es : List DictEntry} {l : List (κ × Value)} (hp : Pairs knd es l) : ∀ i, i < es.length → ∃ e k v, es[i]? = some e ∧ l[i]? = some (k, v) ∧ knd.is k e.key = true ∧ e.val = v := by
  induction hp with
  | nil => exact fun i h => absurd h (Nat.not_lt_zero _)
  | @cons e kv es l h1 h2 ht ih =>
    intro i h
    cases i with
    | zero => exact ⟨e, kv.1, kv.2, rfl, rfl, h1, h2⟩
    | succ i => exact ih i (Nat.lt_of_succ_lt_succ h)
theorem ite_tail {α β : Type} {M : Model} {c : Prop} [Decidable c] {x : Sem α} {f : α → Sem β} {tail : Sem Unit} {Q : Unit → Shared → Prop} (h1 : wpAny M A x (fun a s' => wpAny M A (f a) (fun _ s2 => s2 = s) E s') E s)
    (h2 : wpAny M A tail Q E s) : wpAny M A (if c then x >>= fun a => f a >>= fun _ => tail else tail) Q E s := by
  split
  · exact wpAny_bind (wpAny_mono h1 (fun a s' h => wpAny_bind (wpAny_mono h (fun _ s2 e => by rw [e]; exact h2) fun _ _ e => e)) fun _ _ e => e)
  · exact h2
theorem merge_fresh {d o : Addr} {l more : List (κ × Value)} {Q : Unit → Shared → Prop} (hdo : d ≠ o) (hoS : (o == sysModules) = false) (hd : s.heap.DictOf knd d l) (ho : s.heap.DictOf knd o more)
    (nd : ((l ++ more).map (·.1)).Nodup) (hz : l.length + more.length ≤ sizeLine) (hQ : ∀ h', h'.DictOf knd d (l ++ more) → Heap.SameBut d s.heap h' → Q () { s with heap := h' }) : wpAny (model P w) A (mergeMapping d (.ref o) false) Q E s := by
  have hT := ho.typeIs
  obtain ⟨oo, eo, po, hoo, hxo, hdd, hko, hpo, ndo⟩ := id ho
  obtain ⟨od, ed, pd, hod, _, hde, _⟩ := id hd
  have z1 := hpo.length
  have z2 : eo.toList.length = eo.size := Array.length_toList
  have hlen : eo.size = more.length := by omega
  unfold mergeMapping
  refine wpAny_bind (wpAny_isInstance hT isSubtype_dict_dict ?_)
  dsimp only
  rw [if_pos rfl]
  refine wpAny_bind (wpAny_specialOf hT F.slot_dict_iter.lookup (wpAny_bind (wpAny_pure ?_)))
  simp only [beq_self_eq_true]
  rw [if_neg (by rw [hoS]; exact Bool.false_ne_true)]
  refine wpAny_bind (wpAny_dictEntries hod hde (ite_tail ?_ ?_))
  · refine wpAny_dictEntries hoo hdd ?_
    rw [← Array.forIn_toList]
    refine wpAny_forIn_list _ (fun rest _ s' => s' = s ∧ ∀ e ∈ rest, carriedByValue e.key = true) _ ?_ (fun _ s' h => h.1) _ _ ⟨rfl, fun e he => ?_⟩
    · rintro e rest b s' ⟨rfl, hall⟩
      have hc := hall e (List.mem_cons_self ..)
      cases hk : e.key with
      | ref a => rw [hk] at hc; cases hc
      | _ => exact wpAny_pure ⟨rfl, fun x hx => hall x (List.mem_cons_of_mem _ hx)⟩
    · obtain ⟨k, h1, _⟩ := hko e (Array.mem_toList_iff.mp he)
      exact knd.byValue k _ h1
  · refine wpAny_bind (wpAny_dictEntries hoo hdd ?_)
    refine wpAny_bind (wpAny_dictEpoch hoo hdd (wpAny_bind ?_))
    rw [List.range_eq_range']
    refine wpAny_forIn_list _ (fun rest _ s' => ∃ h' i, s' = { s with heap := h' } ∧ rest = List.range' i (eo.size - i) ∧ i ≤ eo.size ∧ h'.DictOf knd d (l ++ more.take i) ∧ h'.get? o = some oo ∧ Heap.SameBut d s.heap h') _ ?_ ?_ _ _ ⟨s.heap, 0, rfl, rfl, Nat.zero_le _, by rw [List.take_zero, List.append_nil]; exact hd, hoo, Heap.SameBut.refl _ _⟩
    · rintro x rest b s' ⟨h', i, rfl, hr, hi, hd', hoo', sb⟩
      have hlt : i < eo.size := by
        rcases Nat.lt_or_ge i eo.size with h | h
        · exact h
        · rw [Nat.sub_eq_zero_of_le h] at hr; cases hr
      rw [show eo.size - i = (eo.size - (i + 1)) + 1 by omega, List.range'_succ] at hr
      obtain ⟨rfl, rfl⟩ := List.cons.inj hr
      obtain ⟨e, k, v, g1, g2, g3, g4⟩ := pairs_at hpo x (by omega)
      rw [Array.getElem?_toList] at g1
      obtain ⟨k2, q1, q2⟩ := hko e (Array.mem_of_getElem? g1)
      cases knd.inj _ _ _ g3 q1
      subst g4
      refine wpAny_bind (wpAny_dictEntries (s := { s with heap := h' }) hoo' hdd ?_)
      rw [g1]
      dsimp only
      rw [if_neg Bool.false_ne_true, q2]
      have tk : more.take (x + 1) = more.take x ++ [(k, e.val)] := by
        rw [List.take_add_one, g2]
        rfl
      have nk : k ∉ (l ++ more.take x).map (·.1) := fun hm => by
        have e1 : more = more.take x ++ (k, e.val) :: more.drop (x + 1) := by
          obtain ⟨hx2, g2'⟩ := List.getElem?_eq_some_iff.mp g2
          rw [← g2', ← List.drop_eq_getElem_cons hx2, List.take_append_drop]
        rw [e1, ← List.append_assoc, List.map_append, List.nodup_append] at nd
        exact nd.2.2 k hm k (List.mem_cons_self ..) rfl
      refine wpAny_bind (wpAny_holding (put_fresh (s := { s with heap := h' }) g3 hd' nk ?_ fun h2 hd2 sb2 => ?_))
      · rw [List.length_append, List.length_take]; omega
      have hoo2 : h2.get? o = some oo := (sb2.2 o (Ne.symm hdo)).trans hoo'
      refine wpAny_bind (wpAny_dictEpoch (s := { s with heap := h2 }) hoo2 hdd ?_)
      rw [if_neg (by simp)]
      exact wpAny_pure ⟨h2, x + 1, rfl, rfl, hlt, by rw [tk, ← List.append_assoc]; exact hd2, hoo2, sb.trans sb2⟩
    · rintro b s' ⟨h', i, rfl, hr, hi, hd', _, sb⟩
      have e : i = eo.size := by
        rcases Nat.lt_or_ge i eo.size with h | h
        · rw [show eo.size - i = (eo.size - (i + 1)) + 1 by omega, List.range'_succ] at hr; cases hr
        · omega
      rw [e, hlen, List.take_length] at hd'
      exact wpAny_pure (hQ h' hd' sb)
end
end Fx

namespace Fx
open PySem PySem.Spec PyProof.Rows L2 Evl Lk
/-! ### {**d, k: v}, as rules -/
def tStar (td tk tv : TE) : TE := fun σ H Q => ∀ d, H d = none → td σ (upd H d (.dK [])) fun x H1 => ∃ a kvs, x = .ref a ∧ Rd H1 a (.dK kvs) ∧ a ≠ d ∧ H1 d = some (.dK []) ∧ kvs.length ≤ 4000 ∧
  ∀ p, upd H1 d (.dK kvs) p = none → tk σ (upd (upd H1 d (.dK kvs)) p (.dK [])) fun y H2 => tv σ H2 fun v H3 => ∃ k : Key, y = kV k ∧ H3 p = some (.dK []) ∧ H3 d = some (.dK kvs) ∧ k ∉ kvs.map (·.1) ∧ Q (.ref d) (upd (upd H3 p (.dK [(k, v)])) d (.dK (kvs ++ [(k, v)])))
theorem kv_keys {l : List (Key × V)} {vs : List (Key × Value)} (h : KV l vs) : vs.map (·.1) = l.map (·.1) := by
  unfold KV at h
  induction h with
  | nil => rfl
  | cons a _ ih => rw [List.map_cons, List.map_cons, ih, a.1]
theorem kv_snoc {l : List (Key × V)} {vs : List (Key × Value)} {k : Key} {v : V} {u : Value} (h : KV l vs) (r : RelV v u) : KV (l ++ [(k, v)]) (vs ++ [(k, u)]) := by
  unfold KV at h ⊢
  induction h with
  | nil => exact .cons ⟨rfl, r⟩ .nil
  | cons a _ ih => exact .cons a ih
theorem kv_len {l : List (Key × V)} {vs : List (Key × Value)} (h : KV l vs) : vs.length = l.length := by
  have := congrArg List.length (kv_keys h)
  rwa [List.length_map, List.length_map] at this
theorem dict_nd {P : Program} {w : World} {κ : Type} [DecidableEq κ] {knd : KeyKind P w κ} {h : Heap} {a : Addr} {l : List (κ × Value)} (x : h.DictOf knd a l) : (l.map (·.1)).Nodup := let ⟨_, _, _, _, _, _, _, _, n⟩ := x; n
theorem dict_at {P : Program} {w : World} {κ : Type} [DecidableEq κ] {knd : KeyKind P w κ} {h : Heap} {a : Addr} {l : List (κ × Value)} (x : h.DictOf knd a l) : ∃ q, h.get? a = some q := let ⟨q, _, _, n, _⟩ := x; ⟨q, n⟩
section
variable {X : Cx} {de ke ve : Expr} {td tk tv : TE} {pos : Pos}
theorem pe_star (hd : PE X de td) (hk : PE X ke tk) (hv : PE X ve tv) : PE X (.Dict [none, some ke] [de, ve] pos) (tStar td tk tv) := by
  refine ⟨fun pins s σ H Q I h => ?_⟩
  rw [arm_eval_Dict]
  refine wpAny_bind (wpAny_standAt ?_)
  show wpAny _ _ (dictDisplay [(none, do let x ← eval de X.env; standAt pos; pure x), (some (eval ke X.env), do let x ← eval ve X.env; standAt pos; pure x)]) _ _ _
  unfold dictDisplay
  dsimp only
  simp only [List.forIn_cons, List.forIn_nil, pure_bind, bind_assoc, List.isEmpty_nil, List.nil_append, if_true]
  refine wpAny_bind (wpAny_alloc ?_)
  have hn := I.hok.fresh (Nat.le_refl s.heap.objs.size)
  have I1 := I.laid (a := s.heap.objs.size) (o := .dK []) (t' := s.toks) (h' := s.heap.push { cls := .type "dict", data := .dict #[] }) (fun _ _ z => Heap.get?_push_of_some _ z) (Nat.le_refl _) (dk_empty s.heap I.big)
  have h := h _ hn
  generalize s.heap.objs.size = d at h I1 ⊢
  refine wpAny_bind (wpAny_holding (wpAny_bind (thn (hd.run pins _ σ _ _ I1 h) fun u s2 ⟨x, H1, I2, rx, a, kvs, ex, rd, ne, hd1, hl, q⟩ => wpAny_bind (wpAny_standAt (wpAny_pure ?_)))))
  subst ex
  obtain rfl : u = Value.ref a := rx
  obtain ⟨za, ha, vs, rel, da⟩ := dk_rd I2.hok rd
  obtain ⟨zd, hdd, vs0, rel0, dd⟩ := dk_of I2.hok hd1
  cases rel0
  have nda := dict_nd da
  have hlv := kv_len rel
  refine wpAny_bind (wpAny_onRaise (wpAny_tryCatch (wpAny_onRaise (wpAny_holding (merge_fresh (Ne.symm ne) ha dd da (by rw [List.nil_append]; exact nda) (by rw [sizeLine_eq, List.length_nil]; omega) fun h1 dd1 sb1 => ?_)))))
  rw [List.nil_append] at dd1
  have I3 := d_write (t' := s2.toks) I2 (by rw [hd1]; exact True.intro) sb1 (dict_at dd1) (dk_new (H' := upd H1 d (.dK kvs)) za hdd rel dd1)
  generalize hs3 : ({ s2 with heap := h1, toks := s2.toks } : Shared) = s3 at I3
  rw [if_neg (by exact Bool.false_ne_true)]
  refine wpAny_bind (wpAny_pure ?_)
  dsimp only
  refine wpAny_bind (wpAny_pure ?_)
  dsimp only
  rw [if_neg (by exact Bool.false_ne_true)]
  have hnp := I3.hok.fresh (Nat.le_refl s3.heap.objs.size)
  have I4 := I3.laid (a := s3.heap.objs.size) (o := .dK []) (t' := s3.toks) (h' := s3.heap.push { cls := .type "dict", data := .dict #[] }) (fun _ _ z => Heap.get?_push_of_some _ z) (Nat.le_refl _) (dk_empty s3.heap I3.big)
  have q := q _ hnp
  have hnd : s3.heap.objs.size ≠ d := fun e => by rw [e, upd_same] at hnp; cases hnp
  refine wpAny_bind (wpAny_bind (wpAny_holding (wpAny_subDict (knd := mixKind X.prog X.w) (Nat.le_of_ble_eq_true rfl) ?_)))
  generalize s3.heap.objs.size = p at q I4 hnd ⊢
  refine evalPairs_cons (thn (hk.run pins _ σ _ _ I4 q) fun u2 s5 ⟨y, H2, I5, ry, q⟩ => wpAny_bind (thn (hv.run pins s5 σ H2 _ I5 q) fun u3 s6 ⟨v, H3, I6, rv, k, ey, hp3, hd3, nk, q9⟩ => wpAny_bind (wpAny_standAt ?_)))
  refine wpAny_pure (evalPairs_nil ?_)
  subst ey
  obtain ⟨zp, hpp, vs1, rel1, dp⟩ := dk_of I6.hok hp3
  cases rel1
  refine ⟨[(k, u3)], ⟨kV_is ry, rfl, True.intro⟩, dp, fun h2 d2 sb2 => ?_⟩
  have nd1 : ([((k, u3) : Key × Value)].map (·.1)).Nodup := List.nodup_cons.mpr ⟨nofun, .nil⟩
  rw [show merged [] [((k, u3) : Key × Value)] = [(k, u3)] from rfl] at d2
  have I7 := d_write (t' := s6.toks + 1) I6 (by rw [hp3]; exact True.intro) sb2 (dict_at d2) (dk_new (H' := upd H3 p (.dK [(k, v)])) (kvs := [(k, v)]) (Nat.le_trans (Nat.le_of_ble_eq_true rfl) (show 4000 ≤ sizeLine by rw [sizeLine_eq]; omega)) hpp (.cons ⟨rfl, rv⟩ .nil) d2)
  have e7 : upd H3 p (.dK [(k, v)]) d = some (.dK kvs) := by rw [upd_ne (Ne.symm hnd)]; exact hd3
  obtain ⟨zd7, hd7, vs7, rel7, dd7⟩ := dk_of I7.hok e7
  have ks7 := kv_keys rel7
  have kl7 := kv_len rel7
  refine wpAny_bind (wpAny_onRaise (wpAny_holding (merge_fresh (Ne.symm hnd) hpp dd7 d2 ?_ ?_ fun h3 d3 sb3 => ?_)))
  · rw [List.map_append, ks7]
    exact List.nodup_append.mpr ⟨by rw [← ks7]; exact dict_nd dd7, nd1, fun x hx y hy e => nk (by have e2 : y = k := List.mem_singleton.mp hy; rw [← e2, ← e]; exact hx)⟩
  · rw [sizeLine_eq, kl7, List.length_singleton]; omega
  refine wpAny_pure (wpAny_pure ?_)
  have I8 := d_write (t' := s6.toks + 1) I7 (by rw [e7]; exact True.intro) sb3 (dict_at d3) (dk_new (H' := upd (upd H3 p (.dK [(k, v)])) d (.dK (kvs ++ [(k, v)]))) (kvs := kvs ++ [(k, v)]) (by rw [List.length_append, List.length_singleton, sizeLine_eq]; omega) hd7 (kv_snoc rel7 rv) d3)
  exact ⟨.ref d, _, I8, rfl, q9⟩
end
end Fx

namespace Fx
open PySem PySem.Spec PyProof.Rows L2 Evl Lk
/-! ### {**d, k: v} of a dict value, an owned dict -/
section
variable {G : Gx} {T T1 T2 : Addr → Prop} {H H1 H2 : Hp} {σ : L2.St} {env e e2 : Env} {F F1 F2 : Nat → List Addr} {p : Addr} {ob ob1 : HO}
theorem att_put (t : Trk T H) (a : Att G σ T H env F T1 H1 e F1) (np : H p = none) (tp : T1 p) (g0 : G.P0 p ∨ G.H0 p = none) (far : ∀ k, IsS e k → p ∉ F1 k) : Att G σ T H env F T1 (upd H1 p ob) e F1 := by
  have c : Chg T1 H1 (fun x => x = p) T1 (upd H1 p ob) := Chg.write a.re.trk rfl
  exact ⟨a.chg.trans t c fun a ha => .inr (by rw [ha]; exact np), a.re.chg c (fun a ha => by rw [ha]; exact tp) (fun a ha => by rw [ha]; exact g0) fun i hi a ha z => far i hi (by rw [← z]; exact ha), a.own, a.vw⟩
theorem hid_put (t : Trk T1 H1) (tp : T1 p) : Ex (hid T1 H1) (hid T1 (upd H1 p ob)) := by
  have c : Chg T1 H1 (fun x => x = p) T1 (upd H1 p ob) := Chg.write t rfl
  exact c.hid fun a ha => by rw [ha]; exact tp
theorem att_hold (b : Att G σ T1 H1 e F1 T2 H2 e2 F2) (tp : T1 p) (hp : H1 p = some ob) (far : ∀ k, IsS e k → p ∉ F1 k) : H2 p = some ob ∧ T2 p ∧ ∀ k, IsS e2 k → p ∉ F2 k := by
  have nown : ¬ OwnP e F1 p := fun ⟨i, ⟨o, hi⟩, hF⟩ => far i ⟨_, hi⟩ hF
  exact ⟨b.chg.keep p _ hp nown, b.chg.tk p tp nown, att_far b (by rw [hp]; exact nofun) far⟩
end
def wStar (wd wk wv : WE) : WE := fun env Q => wd env fun r e => ∃ ks ds, r = .f (.dic ks ds) ∧ ks.length ≤ 4000 ∧ wk e fun r2 e2 => ∃ k : Key, r2 = .f (dK k) ∧ k ∉ ks ∧ wv e2 fun r3 e3 => ∃ dv, r3 = .f dv ∧ Q (.own (.dic (ks ++ [k]) ((ds ++ [dv]).map O.f))) e3
section
variable {X : Cx} {G : Gx} {de ke ve : Expr} {wd wk wv : WE} {pos : Pos}
theorem fzl_snoc {K : PySem.W.Frag} {H : Hp} {v : V} {d : D} (h : Fz K H v d) : ∀ {vs : List V} {ds : List D}, FzL K H vs ds → FzL K H (vs ++ [v]) (ds ++ [d])
  | _, _, .nil => .cons h .nil
  | _, _, .cons a b => .cons a (fzl_snoc h b)
theorem ge_star (hd : GE X G de wd) (hk : GE X G ke wk) (hv : GE X G ve wv) : GE X G (.Dict [none, some ke] [de, ve] pos) (wStar wd wk wv) := by
  refine ⟨pe_imp (pe_star hd.pe hk.pe hv.pe) fun σ H Q ⟨T, env, F, r, q⟩ => ?_, fun env Q Q' i q => hd.mono _ _ _ (fun s e ⟨ks, ds, h1, h2, q⟩ => ⟨ks, ds, h1, h2, hk.mono _ _ _ (fun s e ⟨k, h1, h2, q⟩ => ⟨k, h1, h2, hv.mono _ _ _ (fun s e ⟨d, h1, q⟩ => ⟨d, h1, i _ _ q⟩) q⟩) q⟩) q⟩
  intro d nd
  have a0 := att_new (o := HO.dK []) r nd
  have g0 : ∀ {p}, H p = none → G.P0 p ∨ G.H0 p = none := fun {p} np => .inr (by
    cases e : G.H0 p with
    | none => rfl
    | some u => exact absurd np (r.st.dom p (by rw [e]; exact nofun)))
  have far0 : ∀ k, IsS env k → d ∉ F k := fun k ⟨s, hs⟩ hF => by
    obtain ⟨v, _, z⟩ := r.slot k s hs
    exact r.trk d (z.sub d hF) nd
  refine ⟨_, env, F, a0.re, hd.mono _ _ _ (fun s e ⟨ks, ds, hs, hl, q⟩ x T1 H1 F1 f1 a1 z1 => ?_) q⟩
  subst hs
  obtain ⟨hd1, td1, far1⟩ := att_hold a1 (.inr rfl) upd_same far0
  have fz1 : Fz G.K (hid T1 H1) x (.dic ks ds) := z1.rel.1
  cases fz1 with
  | dic l hll f =>
    rename_i a vs
    have un : Rd H1 a (.dK (ks.zip vs)) := by
      rcases l with l | ⟨o, l⟩
      · exact .inl (hid_some l).1
      · exact .inr ⟨o, (hid_some l).1⟩
    have nt : ¬ T1 a := by
      rcases l with l | ⟨o, l⟩
      · exact (hid_some l).2
      · exact (hid_some l).2
    have kz : (ks.zip vs).map (·.1) = ks := List.map_fst_zip (Nat.le_of_eq hll)
    have A1 := a0.trans r.trk a1
    have B1 := att_put (ob := .dK (ks.zip vs)) r.trk A1 nd td1 (g0 nd) far1
    refine ⟨a, ks.zip vs, rfl, un, fun e => nt (by rw [e]; exact td1), hd1, by rw [List.length_zip, ← hll, Nat.min_self]; exact hl, fun p np => ?_⟩
    have pd : p ≠ d := fun e => by rw [e, upd_same] at np; cases np
    have np0 : H p = none := by
      cases e : H p with
      | none => rfl
      | some u => exact absurd np (B1.chg.dom p (by rw [e]; exact nofun))
    have b0 := att_new (o := HO.dK []) B1.re np
    have B2 := B1.trans r.trk b0
    obtain ⟨hd2, td2, fard2⟩ := att_hold b0 td1 upd_same far1
    have farp2 : ∀ k, IsS e k → p ∉ F1 k := fun k ⟨s, hs⟩ hF => by
      obtain ⟨v, _, z⟩ := B1.re.slot k s hs
      exact B1.re.trk p (z.sub p hF) np
    refine ⟨_, e, F1, b0.re, hk.mono _ _ _ (fun s2 e2 ⟨k, hk1, nk, q⟩ y T2 H2 F2 f2 a2 z2 => ?_) q⟩
    subst hk1
    have ey := fz_dK z2.rel.1
    subst ey
    obtain ⟨hd3, td3, fard3⟩ := att_hold a2 td2 hd2 fard2
    obtain ⟨hp3, tp3, farp3⟩ := att_hold a2 (.inr rfl) upd_same farp2
    refine ⟨T2, e2, F2, a2.re, hv.mono _ _ _ (fun s3 e3 ⟨dv, hs3, q⟩ v T3 H3 F3 f3 a3 z3 => ?_) q⟩
    subst hs3
    obtain ⟨hd4, td4, fard4⟩ := att_hold a3 td3 hd3 fard3
    obtain ⟨hp4, tp4, farp4⟩ := att_hold a3 tp3 hp3 farp3
    have fv : Fz G.K (hid T3 H3) v dv := z3.rel.1
    refine ⟨k, rfl, hp4, hd4, by rw [kz]; exact nk, ?_⟩
    have C := (B2.trans r.trk a2).trans r.trk a3
    have D1 := att_put (ob := .dK [(k, v)]) r.trk C np0 tp4 (g0 np0) farp4
    have D2 := att_put (ob := .dK (ks.zip vs ++ [(k, v)])) r.trk D1 nd td4 (g0 nd) fard4
    have x1 := hid_put (ob := .dK (ks.zip vs)) A1.re.trk td1
    have x2 := b0.chg.hid B1.re.sub
    have x3 := a2.chg.hid b0.re.sub
    have x4 := a3.chg.hid a2.re.sub
    have x5 := hid_put (ob := .dK [(k, v)]) C.re.trk tp4
    have x6 := hid_put (ob := .dK (ks.zip vs ++ [(k, v)])) D1.re.trk td4
    have ff := ((((f.ex x1).ex x2).ex x3).ex x4).ex x5 |>.ex x6
    have fz := fzl_snoc ((fv.ex x5).ex x6) ff
    have ol := owl_fs fz
    have zz : ks.zip vs ++ [(k, v)] = (ks ++ [k]).zip (vs ++ [v]) := by rw [List.zip_append hll]; rfl
    have hdf : (upd (upd H3 p (.dK [(k, v)])) d (.dK (ks.zip vs ++ [(k, v)]))) d = some (.dK ((ks ++ [k]).zip (vs ++ [v]))) := by rw [upd_same, zz]
    exact q (.ref d) T3 _ F3 [d] D2 ⟨.dic (fp := []) td4 hdf (by rw [List.length_append, List.length_append, hll]; rfl) ol nofun, fun _ _ i hi a ha => by rw [List.mem_singleton.mp ha]; exact fard4 i hi, fun _ _ a ha => .inr (by rw [List.mem_singleton.mp ha]; exact nd)⟩
end
section
variable {wd wk wv : WE} {env : Env} {Q : Sl → Env → Prop}
theorem x_dstar (h : wd env fun r e => ∃ ks ds, r = .f (.dic ks ds) ∧ ks.length ≤ 4000 ∧ wk e fun r2 e2 => ∃ k : Key, r2 = .f (dK k) ∧ k ∉ ks ∧ wv e2 fun r3 e3 => ∃ dv, r3 = .f dv ∧ Q (.own (.dic (ks ++ [k]) ((ds ++ [dv]).map O.f))) e3) : wStar wd wk wv env Q := h
end
end Fx

namespace Fx
open PySem PySem.Spec PyProof.Rows L2 Evl Lk
/-! ### {text for .. in .. if ..}: a set of texts -/
abbrev SetT (P : Program) (w : World) (h : Heap) (a : Addr) (S : Str → Bool) (n : Nat) : Prop := SO.SetS (PySem.strKind P w) h a S n
def SetTO (P : Program) (w : World) (a : Addr) (S : Str → Bool) (n : Nat) : HO := .ext fun h => SetT P w h a S n
theorem setT_at {P : Program} {w : World} {h h' : Heap} {a : Addr} {S : Str → Bool} {n : Nat} (R : SetT P w h a S n) (k : ∀ o, h.get? a = some o → h'.get? a = some o) : SetT P w h' a S n := by
  obtain ⟨o, es, ep, t, ho, r⟩ := R
  exact ⟨o, es, ep, t, k o ho, r⟩
theorem setT_there {P : Program} {w : World} {h : Heap} {a : Addr} {S : Str → Bool} {n : Nat} (R : SetT P w h a S n) : ∃ o, h.get? a = some o := let ⟨o, _, _, _, ho, _⟩ := R; ⟨o, ho⟩
theorem setTO_new {P : Program} {w : World} {H : Hp} {h : Heap} {a : Addr} {S : Str → Bool} {n : Nat} (R : SetT P w h a S n) : ObjOk P w H h a (SetTO P w a S n) := ⟨R, setT_there R, fun h1 h2 p k => setT_at p k⟩
theorem addT_call {P : Program} {w : World} {A : Around} {E : Value → Shared → Prop} {s : Shared} {a : Addr} {S : Str → Bool} {n : Nat} {x : Str} {t : Tok} {Q : Value → Shared → Prop} (R : SetT P w s.heap a S n) (room : n + 1 < scanBound)
    (hQ : ∀ h', Heap.SameBut a s.heap h' → SetT P w h' a (fun j => S j || decide (j = x)) (if S x = true then n else n + 1) → Q .none { s with heap := h', toks := s.toks + 1 }) : wpAny (model P w) A (call (.builtin "set.add") [.ref a, .str x t]) Q E s := by
  have kx : (PySem.strKind P w).is x (.str x t) = true := keyIs_str x t
  refine wpAny_call_entry F.slot_set_add R.setOf.typeIs F.entry_set_add ?_ (F.args_set_add_2 _ _)
  unfold Builtin.«set.add» Builtin.Frozenset.oneOther Builtin.Frozenset.addrOf setAdd
  simp only [List.isEmpty_nil, bind_assoc]
  refine wpAny_bind (wpAny_pure ?_)
  try dsimp only
  refine wpAny_bind (wpAny_pure ?_)
  try dsimp only
  refine wpAny_bind (wpAny_holding (wpAny_bind ((PySem.strKind P w).pyHash kx ?_)))
  refine SO.add_hashed (s := { s with toks := s.toks + 1 }) kx rfl R room fun h' sb r => ?_
  exact wpAny_pure ⟨_, rfl, hQ h' sb r⟩
section
variable {X : Cx}
theorem addT_ok {pins : List (Addr × Obj)} {σ : L2.St} {H : Hp} {s : Shared} {E : Value → Shared → Prop} {D : Addr} {S : Str → Bool} {n : Nat} {x : Str} {t : Tok} {Q : Value → Shared → Prop} (I : Inv X pins σ H s) (hD : H D = some (SetTO X.prog X.w D S n)) (room : n + 1 < scanBound)
    (h : ∀ s', Inv X pins σ (upd H D (SetTO X.prog X.w D (fun j => S j || decide (j = x)) (if S x = true then n else n + 1))) s' → Q .none s') : wpAny (model X.prog X.w) X.A (call (.builtin "set.add") [.ref D, .str x t]) Q E s := by
  have R : SetT X.prog X.w s.heap D S n := (I.hok D _ hD).1
  refine addT_call R room fun h' sb new => ?_
  exact h _ (I.write (e := D) (t' := s.toks + 1) (by rw [hD]; exact True.intro) (.inl rfl) (fun b u hb hu => (sb.2 b hb).trans hu) (setT_there new) (setTO_new new))
def NewT (X : Cx) (D : Addr) : HO := SetTO X.prog X.w D (fun _ => false) 0
def AddT (X : Cx) (D : Addr) (S : Str → Bool) (n : Nat) (x : Str) : HO := SetTO X.prog X.w D (fun j => S j || decide (j = x)) (if S x = true then n else n + 1)
def stepT (X : Cx) (D : Addr) (g : TG) (tt : TT) (te : TE) (vs : List Nat) (σ : L2.St) (x : V) (H' : Hp) (Nx : Hp → Prop) : Prop := g x (wipe σ vs) H' fun σ2 H2 => wipe σ2 vs = wipe σ vs ∧ tt σ2 H2 fun b H3 =>
  if b = true then te σ2 H3 fun y H4 => ∃ (x : Str) (S : Str → Bool) (n : Nat), y = .str x ∧ H4 D = some (SetTO X.prog X.w D S n) ∧ n + 1 < scanBound ∧ Nx (upd H4 D (AddT X D S n x)) else Nx H3
def tScT (X : Cx) (wi : TI) (g : TG) (tt : TT) (te : TE) (vs : List Nat) (σ : L2.St) (H : Hp) (Q : Addr → Hp → Prop) : Prop := wi σ H fun J H1 => ∀ D, H1 D = none → ∃ W : Nat → Nat → Hp → Prop, (∃ m, W 0 m (upd H1 D (NewT X D))) ∧ ∀ i m H, W i m H →
  (J.stop i H ∧ Q D H) ∨ (J.go i H ∧ ∃ Nx : Hp → Prop, (∀ H', Nx H' → ∃ m', m' < m ∧ W (i + 1) m' H') ∧ ∀ x H', J.yld i H x H' → stepT X D g tt te vs σ x H' Nx)
abbrev InBlk (X : Cx) (scope : Scope) (f : Cx → Prop) : Prop := ∀ (s : Shared) (H : Hp) (C : Addr) (cl : List (PySem.Str × Addr)) (fp : List Addr), f (X.blk s H scope (compEnvC scope cl C X.env) fp)
theorem scT_core {pins : List (Addr × Obj)} {s : Shared} {σ : L2.St} {H : Hp} {Q : Addr → Hp → Prop} {elt tg iter : Expr} {ifs : List Expr} {scope : Scope} {own : List (PySem.Str × Nat)} {pos pos' : Pos} {wi : TI} {g : TG} {tt : TT} {te : TE} {Qf : Value → Shared → Prop}
    (hc : X.calm = true) (hN : X.N.Nodup) (I : Inv X pins σ H s) (hi : PI X tg iter wi) (ok : BlkOk X.N X.env.scope scope own) (hg : InBlk X scope fun Y => PG Y tg g) (ht : InBlk X scope fun Y => PTs Y ifs tt) (he : InBlk X scope fun Y => PE Y elt te)
    (hs : ∀ x, foldedSetIterable iter X.env x = pure x) (h : tScT X wi g tt te (own.map (·.2)) σ H Q)
    (hRR : ∀ D C s' m H', Inv X pins σ H' s' → Q D H' → s'.heap.Ns C m → FpOk X pins H' C → compPost (model X.prog X.w) X.A X.xe none Qf (.ref D) C (.ok .next) s') :
    wpAny (model X.prog X.w) X.A (comprehension (.SetComp elt [⟨tg, iter, ifs, 0⟩] scope pos) scope X.env pos' (newSet (.type "set")) false (eval iter X.env) none) Qf X.xe s := by
  have hfree : ∀ y ∈ scope.names, y.2 = .free → ∃ c, X.env.cells.lookup y.1 = some c := fun y hy e => (ok.free y hy e).elim (fun k => I.ok.has _ (.inl k)) fun k => I.ok.has _ (.inr k)
  refine wpAny_comprehension_free (use := none) rfl hs (closure_ok hfree) ok.kind (fun y hy e => by rw [ok.uniq y hy, e]) ?_
  refine thn (hi.run pins s σ H _ I h) fun xv s1 hx => thn hx fun itv s2 ⟨it, fp, tn, J, H2, e, I2, T, st2, f2, q⟩ => ?_
  subst e
  refine PpSet.newSet_ok (newEnv_comp ?_)
  have hDn : H2 s2.heap.objs.size = none := I2.hok.fresh (Nat.le_refl _)
  obtain ⟨W, ⟨m0, w0⟩, turn⟩ := q s2.heap.objs.size hDn
  have fr : SetT X.prog X.w (s2.heap.push { cls := .type "set", dict := none, data := .set #[] 0 (.fresh 0 0 (!X.w.params.followText "set-order")) }) s2.heap.objs.size (fun _ => false) 0 := SO.setS_fresh (Heap.get?_push_size _ rfl) rfl
  have I3 := I2.laid (a := s2.heap.objs.size) (o := NewT X s2.heap.objs.size) (h' := s2.heap.push { cls := .type "set", dict := none, data := .set #[] 0 (.fresh 0 0 (!X.w.params.followText "set-order")) }) (t' := s2.toks) (fun b o e => Heap.get?_push_of_some _ e) (Nat.le_refl _) (setTO_new fr)
  have sz : ∀ b ∈ fp, b < s2.heap.objs.size := fun b hb => by
    obtain ⟨o, e, _⟩ := T.obj _ _ st2 b hb
    exact Heap.lt_size e
  have f3 : ∀ b ∈ fp, FpOk X pins (upd H2 s2.heap.objs.size (NewT X s2.heap.objs.size)) b ∧ b < s2.heap.objs.size + 1 := fun b hb =>
    ⟨⟨by rw [upd_ne (Nat.ne_of_lt (sz b hb))]; exact (f2 b hb).1, (f2 b hb).2⟩, Nat.lt_succ_of_lt (sz b hb)⟩
  have st3 := T.keep _ _ (s2.heap.push { cls := .type "set", dict := none, data := .set #[] 0 (.fresh 0 0 (!X.w.params.followText "set-order")) }) st2 fun b _ o e => Heap.get?_push_of_some _ e
  have zz := Heap.size_push s2.heap { cls := .type "set", dict := none, data := .set #[] 0 (.fresh 0 0 (!X.w.params.followText "set-order")) }
  generalize hs3 : ({ s2 with heap := s2.heap.push { cls := .type "set", dict := none, data := .set #[] 0 (.fresh 0 0 (!X.w.params.followText "set-order")) }, toks := s2.toks } : Shared) = s3 at I3
  have h3 : s3.heap = s2.heap.push { cls := .type "set", dict := none, data := .set #[] 0 (.fresh 0 0 (!X.w.params.followText "set-order")) } := by rw [← hs3]
  rw [← h3] at st3 zz
  rw [← zz] at f3
  generalize s2.heap.objs.size = D at hDn turn w0 I3 f3
  have I4 := block_start I3 ok hN f3
  have pg := hg s3 (upd H2 D (NewT X D)) s3.heap.objs.size (cellsFrom (s3.heap.objs.size + 1) scope.names (cloFrom X.env.cells scope.names [])) fp
  have pt := ht s3 (upd H2 D (NewT X D)) s3.heap.objs.size (cellsFrom (s3.heap.objs.size + 1) scope.names (cloFrom X.env.cells scope.names [])) fp
  have pe := he s3 (upd H2 D (NewT X D)) s3.heap.objs.size (cellsFrom (s3.heap.objs.size + 1) scope.names (cloFrom X.env.cells scope.names [])) fp
  have nfp : ∀ b ∈ fp, (upd H2 D (NewT X D)) b = none := fun b hb => (f3 b hb).1.1
  have hz3 : s2.heap.push { cls := .type "set", dict := none, data := .set #[] 0 (.fresh 0 0 (!X.w.params.followText "set-order")) } = s3.heap := h3.symm
  try rw [hz3]
  show codeAny _ _ (.compStart (.SetComp elt [⟨tg, iter, ifs, 0⟩] scope pos) 0 (.ref it) (.ref D) (compEnvC scope (cellsFrom (s3.heap.objs.size + 1) scope.names (cloFrom X.env.cells scope.names [])) s3.heap.objs.size X.env)) (compPost (model X.prog X.w) X.A X.xe none Qf (.ref D) s3.heap.objs.size) { s3 with heap := pushCells (s3.heap.push { cls := .type "dict", data := .dict #[] }) scope.names }
  generalize hce : compEnvC scope (cellsFrom (s3.heap.objs.size + 1) scope.names (cloFrom X.env.cells scope.names [])) s3.heap.objs.size X.env = ce at I4 pg pt pe ⊢
  have cL : ce.locals = s3.heap.objs.size := by rw [← hce]; rfl
  generalize hH3 : upd H2 D (NewT X D) = H3 at I3 I4 pg pt pe w0 nfp f3
  generalize hs4 : ({ s3 with heap := pushCells (s3.heap.push { cls := .type "dict", data := .dict #[] }) scope.names } : Shared) = s4 at I4 ⊢
  have st4 : tn 0 s4.heap := T.keep _ _ _ st3 fun b _ o e => by rw [← hs4]; exact pushCells_keeps _ _ _ _ (Heap.get?_push_of_some _ e)
  have stat : ∀ {σ' : L2.St} {H' : Hp} {s' : Shared}, Inv (X.blk s3 H3 scope ce fp) [] σ' H' s' → (∀ b ∈ fp, H' b = none) → ∀ b ∈ fp, FpOk (X.blk s3 H3 scope ce fp) [] H' b := by
    intro σ' H' s' I' hn b hb
    exact ⟨hn b hb, (I'.ok.exf b hb).1, I'.ok.exfs b hb, .inl hb, fun x c e => (I'.ok.exf b hb).2 x c e, fun p hp => (nomatch (show p ∈ ([] : List (Addr × Obj)) ++ [] from hp))⟩
  have loop : codeAny (model X.prog X.w) X.A (.compLoop (.SetComp elt [⟨tg, iter, ifs, 0⟩] scope pos) 0 (.ref it) (.ref D) ce) (compPost (model X.prog X.w) X.A X.xe none Qf (.ref D) s3.heap.objs.size) s4 := by
    refine PpSet.compLoopS_any (fun n s' => ∃ i H', Inv (X.blk s3 H3 scope ce fp) [] (wipe σ (own.map (·.2))) H' s' ∧ tn i s'.heap ∧ (∀ b ∈ fp, H' b = none) ∧ W i n H') ?_ m0 ⟨0, H3, I4, st4, nfp, w0⟩
    rintro n s5 ⟨i, H5, I5, st5, n5, w5⟩
    rcases turn i n H5 w5 with ⟨stop, qq⟩ | ⟨go, Nx, hNx, step⟩
    · refine thnF (T.done (X.blk s3 H3 scope ce fp) rfl rfl rfl hc i [] s5 _ H5 (fun _ _ => False) I5 (stat I5 n5) st5 stop) fun r s6 ⟨hr, I6⟩ => ?_
      subst hr
      have I7 : Inv X pins σ H5 s6 := I3.call' (ch := fp) I6.os I6.base I6.hok I6.bare fun b hb => ⟨(f3 b hb).1.2.2.2.1, (f3 b hb).1.2.1, (f3 b hb).1.2.2.2.2.1, (f3 b hb).1.2.2.2.2.2⟩
      have nC : H5 ce.locals = none := I6.free
      obtain ⟨m, hn, _⟩ := I6.loc
      have hn : s6.heap.Ns ce.locals m := hn
      rw [cL] at hn nC
      exact hRR D s3.heap.objs.size s6 m H5 I7 qq hn (I3.fpOk (Nat.le_refl _) nC)
    · refine thnF (T.item (X.blk s3 H3 scope ce fp) rfl rfl rfl hc i [] s5 _ H5 (fun _ _ => False) I5 (stat I5 n5) st5 go) fun r s6 ⟨u, hr, h6⟩ => ?_
      subst hr
      refine thnF h6 fun _ s7 ⟨x, H7, I7, r7, y7, st7, n7⟩ => ?_
      have I7' := I7.pinned (stat I7 n7) (T.obj _ _ st7)
      refine thnF (pg.run _ s7 _ H7 x u _ I7' r7 (step x H7 y7)) fun _ s8 ⟨σ8, H8, I8, hw8, q8⟩ => thnF (pt.run _ s8 σ8 H8 _ I8 q8) fun b s9 ⟨H9, I9, q9⟩ => ?_
      have fin : ∀ {s' : Shared} {H' : Hp}, Inv (X.blk s3 H3 scope ce fp) ([] ++ pinsAt fp s7.heap) σ8 H' s' → Nx H' → ∃ m, m < n ∧ ∃ i H', Inv (X.blk s3 H3 scope ce fp) [] (wipe σ (own.map (·.2))) H' s' ∧ tn i s'.heap ∧ (∀ b ∈ fp, H' b = none) ∧ W i m H' := by
        intro s' H' I' nx
        obtain ⟨m', hm, w'⟩ := hNx H' nx
        have pin' : ∀ b ∈ fp, ∀ o, s7.heap.get? b = some o → s'.heap.get? b = some o ∧ H' b = none := fun b hb o e => by
          have z := I'.pin (b, o) (List.mem_append_right _ (List.mem_append_right _ (mem_pinsAt hb e)))
          exact ⟨z.1, z.2.1⟩
        have hl : (wipe σ (own.map (·.2))).length = σ8.length := by rw [← hw8, wipe_length]
        refine ⟨m', hm, i + 1, H', (I'.unpinned (pins := [])).weak hl (fun j v e => by rw [← hw8] at e; exact (wipe_some e).1), T.keep _ _ _ st7 fun b hb o e => (pin' b hb o e).1, fun b hb => ?_, w'⟩
        obtain ⟨o, e, _⟩ := T.obj _ _ st7 b hb
        exact (pin' b hb o e).2
      cases b with
      | false =>
        rw [if_neg Bool.false_ne_true] at q9 ⊢
        exact fin I9 q9
      | true =>
        rw [if_pos rfl] at q9 ⊢
        refine thnF (pe.run _ s9 σ8 H9 _ I9 q9) fun z s10 ⟨yv, H10, I10, r10, x0, S0, n0, ey, hD10, hz10, nx⟩ => ?_
        subst ey
        obtain ⟨tk0, rfl⟩ := (show ∃ t, z = Value.str x0 t from r10)
        exact addT_ok (X := X.blk s3 H3 scope ce fp) I10 hD10 hz10 fun s11 I11 => fin I11 nx
  exact PpSet.codeAny_compStart_set loop (T.self X.A 0 _ _ _ st4 loop)
end
end Fx

namespace Fx
open PySem PySem.Spec PyProof.Rows L2 Evl Lk
/-! ### sorted({text for .. in .. if ..}) -/
def addU (l : List Str) (x : Str) : List Str := if l.contains x then l else l ++ [x]
def uniq (acc : List Str) : List Str := acc.foldl addU []
theorem uniq_snoc {acc : List Str} {x : Str} : uniq (acc ++ [x]) = addU (uniq acc) x := by unfold uniq; rw [List.foldl_append]; rfl
theorem addU_mem {l : List Str} {x y : Str} : y ∈ addU l x ↔ y ∈ l ∨ y = x := by
  unfold addU
  split
  · rename_i h
    have h : x ∈ l := by simpa using h
    exact ⟨.inl, fun z => z.elim id fun e => by rw [e]; exact h⟩
  · rw [List.mem_append, List.mem_singleton]
theorem addU_nd {l : List Str} {x : Str} (h : l.Nodup) : (addU l x).Nodup := by
  unfold addU
  split
  · exact h
  · rename_i n
    have n : x ∉ l := by simpa using n
    exact List.nodup_append.mpr ⟨h, List.nodup_cons.mpr ⟨nofun, .nil⟩, fun y hy z hz e => n (by rw [← List.mem_singleton.mp hz, ← e]; exact hy)⟩
theorem addU_len {l : List Str} {x : Str} : (addU l x).length ≤ l.length + 1 := by
  unfold addU
  split
  · omega
  · rw [List.length_append]; exact Nat.le_refl _
theorem uniq_ok (acc : List Str) : (∀ y, y ∈ uniq acc ↔ y ∈ acc) ∧ (uniq acc).Nodup ∧ (uniq acc).length ≤ acc.length := by
  have key : ∀ (acc l : List Str), l.Nodup → (∀ y, y ∈ acc.foldl addU l ↔ y ∈ l ∨ y ∈ acc) ∧ (acc.foldl addU l).Nodup ∧ (acc.foldl addU l).length ≤ l.length + acc.length := by
    intro acc
    induction acc with
    | nil => exact fun l h => ⟨fun y => ⟨.inl, fun z => z.elim id nofun⟩, h, Nat.le_refl _⟩
    | cons x acc ih =>
      intro l h
      obtain ⟨h1, h2, h3⟩ := ih (addU l x) (addU_nd h)
      have h4 := addU_len (l := l) (x := x)
      refine ⟨fun y => ?_, h2, by rw [List.foldl_cons, List.length_cons]; omega⟩
      rw [List.foldl_cons, h1 y, addU_mem, List.mem_cons, or_assoc]
  obtain ⟨h1, h2, h3⟩ := key acc [] .nil
  exact ⟨fun y => (h1 y).trans ⟨fun z => z.elim nofun id, .inr⟩, h2, by rw [List.length_nil, Nat.zero_add] at h3; exact h3⟩
def UniO (X : Cx) (D : Addr) (l : List Str) : HO := SetTO X.prog X.w D (fun q => l.contains q) l.length
theorem newT_uni {X : Cx} {D : Addr} : NewT X D = UniO X D [] := by
  show SetTO _ _ D (fun _ => false) 0 = SetTO _ _ D _ 0
  congr 1
theorem addT_uni {X : Cx} {D : Addr} {l : List Str} {x : Str} : AddT X D (fun q => l.contains q) l.length x = UniO X D (addU l x) := by
  unfold AddT UniO
  have e1 : (fun j => l.contains j || decide (j = x)) = fun q => (addU l x).contains q := by
    funext j
    rw [Bool.eq_iff_iff, Bool.or_eq_true, decide_eq_true_eq, List.contains_iff_mem, List.contains_iff_mem, addU_mem]
  have e2 : (if l.contains x = true then l.length else l.length + 1) = (addU l x).length := by
    unfold addU
    split
    · rfl
    · rw [List.length_append]; rfl
  rw [e1, e2]
/-- between two turns: the frame against its state ahead of the comprehension, and what is filled -/
structure Cso (G : Gx) (T : Addr → Prop) (H : Hp) (env : Env) (F : Nat → List Addr) (Dl : Addr) (σ' : L2.St) (vs' : List Nat) (T' : Addr → Prop) (H' : Hp) (e : Env) (F' : Nat → List Addr) (ob : HO) : Prop where
  chg : Chg T H (OwnP env F) T' H'
  re : RE G T' H' σ' (wipeE e vs') F'
  own : ∀ a, OwnP (wipeE e vs') F' a → OwnP env F a ∨ H a = none
  vw : ∀ k o, (wipeE e vs')[k]? = some (some (.vw o)) → env[k]? = some (some (.vw o)) ∧ F' k = F k
  tD : T' Dl
  hD : H' Dl = some ob
  nF : ∀ k, IsS (wipeE e vs') k → Dl ∉ F' k
section
variable {G : Gx} {T T1 T4 : Addr → Prop} {H H1 H2 H4 : Hp} {σ σ' σ2 : L2.St} {env e e4 : Env} {F F1 F4 : Nat → List Addr} {Dl : Addr} {ob ob1 : HO} {vs v1 v2 : List Nat}
theorem Cso.ev (t : Trk T H) (c : Cso G T H env F Dl σ2 [] T1 H1 e F1 ob) (a : Att G σ2 T1 H1 e F1 T4 H4 e4 F4) : Cso G T H env F Dl σ2 [] T4 H4 e4 F4 ob ∧ Ex (hid T1 H1) (hid T4 H4) := by
  have n : ∀ k, IsS e k → ∀ y ∈ [Dl], y ∉ F1 k := fun k hk y hy hF => by
    rw [List.mem_singleton.mp hy] at hF
    exact c.nF k hk hF
  have nP : ¬ OwnP e F1 Dl := fun ⟨k, ⟨o, hk⟩, hF⟩ => n k ⟨_, hk⟩ Dl (List.mem_singleton.mpr rfl) hF
  have out := att_out (fr := [Dl]) c.re.trk a (fun y hy => by rw [List.mem_singleton.mp hy]; exact c.tD) n
  have x := a.chg.hid c.re.sub
  refine ⟨⟨c.chg.trans t a.chg c.own, a.re, fun y hy => ?_, fun k o hk => ?_, a.chg.tk Dl c.tD nP, a.chg.keep Dl _ c.hD nP, fun k hk hF => out k hk Dl (List.mem_singleton.mpr rfl) hF⟩, x⟩
  · rcases a.own y hy with h | h
    · exact c.own y h
    · refine .inr ?_
      cases z : H y with
      | none => rfl
      | some u => exact absurd h (c.chg.dom y (by rw [z]; exact nofun))
  · obtain ⟨h1, h2⟩ := a.vw k o hk
    obtain ⟨h3, h4⟩ := c.vw k o h1
    exact ⟨h3, h2.trans h4⟩
theorem Cso.back (c : Cso G T H env F Dl σ2 v1 T1 H1 e F1 ob) (sub : ∀ i ∈ v1, i ∈ v2) (hl : σ.length = σ2.length) (hs : ∀ k, k ∉ v2 → σ[k]? = σ2[k]?) (hp : ∀ i ∈ v2, G.prot i = false) : Cso G T H env F Dl σ v2 T1 H1 e F1 ob :=
  ⟨c.chg, (by
    have r := c.re.wipeE v2
    rw [wipeE_both sub] at r
    exact r.sigma hl hs hp), fun a ⟨k, ⟨o, hk⟩, ha⟩ => c.own a ⟨k, ⟨o, wipeE_sub sub hk⟩, ha⟩, fun k o hk => c.vw k o (wipeE_sub sub hk), c.tD, c.hD, fun k ⟨s, hk⟩ => c.nF k ⟨s, wipeE_sub sub hk⟩⟩
theorem Cso.turn {tg : Tgt} {x : V} {d : D} {xs : List D} (t : Trk T H) (c : Cso G T H env F Dl σ' vs T1 H1 e F1 ob) (ex : Ex H1 H2) (fz : Fz G.K (hid T1 H2) x d) (hx : tg.get d = some xs) (hsub : ∀ j ∈ tg.js, j ∈ vs) (hp : ∀ i ∈ vs, G.prot i = false) (hlen : ∀ i ∈ vs, i < σ'.length) {R : L2.St → Hp → Prop}
    (k : ∀ σ2 F2, Cso G T H env F Dl σ2 [] T1 H2 (setE (wipeE e vs) tg.js xs) F2 ob → σ2.length = σ'.length → (∀ k, k ∉ vs → σ2[k]? = σ'[k]?) → R σ2 H2) : tg.tg G.K x (wipe σ' vs) H2 R := by
  have re2 : RE G T1 H2 (wipe σ' vs) (wipeE e vs) F1 := (c.re.ex ex).sigma (wipe_length σ' vs) (fun k hk => by rw [wipe_get, if_neg hk]) hp
  have lw : ∀ j ∈ tg.js, j < (wipe σ' vs).length := fun j hj => by rw [wipe_length]; exact hlen j (hsub j hj)
  have fin : ∀ ws F2, RE G T1 H2 (setS (wipe σ' vs) tg.js ws) (setE (wipeE e vs) tg.js xs) F2 → (∀ k, k ∉ tg.js → F2 k = F1 k) → R (setS (wipe σ' vs) tg.js ws) H2 := fun ws F2 r2 f2 => by
    generalize hσ : setS (wipe σ' vs) tg.js ws = σ2 at r2
    have sg : ∀ k, k ∉ vs → σ2[k]? = σ'[k]? := fun k hk => by
      rw [← hσ, setS_out (fun z => hk (hsub k z)), wipe_get, if_neg hk]
    have ln : σ2.length = σ'.length := by rw [← hσ, setS_len, wipe_length]
    generalize henv : setE (wipeE e vs) tg.js xs = env2 at r2
    have sl2 : ∀ k s, env2[k]? = some (some s) → ((∃ d, s = .f d) ∧ F2 k = []) ∨ ((wipeE e vs)[k]? = some (some s) ∧ F2 k = F1 k) := fun k s h => by
      rw [← henv] at h
      rcases setE_s h with ⟨_, d, z⟩ | h'
      · subst z
        rw [henv] at h
        obtain ⟨v, _, z⟩ := r2.slot k _ h
        exact .inl ⟨⟨d, rfl⟩, z.2⟩
      · exact .inr ⟨h', f2 k fun z => (wipeE_some h').2 (hsub k z)⟩
    have c1 : Chg T1 H1 (OwnP (wipeE e vs) F1) T1 H2 := ⟨fun a o h _ => ex a o h, fun _ h _ => h, fun _ h => .inl h, r2.trk, ex_dom ex⟩
    refine k σ2 F2 ⟨c.chg.trans t c1 c.own, by rw [henv]; exact r2, fun a ⟨k, ⟨o, hk⟩, ha⟩ => ?_, fun k o hk => ?_, c.tD, ex Dl _ c.hD, fun k ⟨s, hk⟩ hF => ?_⟩ ln sg
    · rw [henv] at hk
      rcases sl2 k _ hk with ⟨⟨d, z⟩, _⟩ | ⟨h, z⟩
      · cases z
      · exact c.own a ⟨k, ⟨o, h⟩, by rw [← z]; exact ha⟩
    · rw [henv] at hk
      rcases sl2 k _ hk with ⟨⟨d, z⟩, _⟩ | ⟨h, z⟩
      · cases z
      · obtain ⟨h3, h4⟩ := c.vw k o h
        exact ⟨h3, z.trans h4⟩
    · rw [henv] at hk
      rcases sl2 k s hk with ⟨_, z⟩ | ⟨h, z⟩
      · rw [z] at hF; cases hF
      · rw [z] at hF; exact c.nF k ⟨s, h⟩ hF
  cases tg with
  | name j =>
    have hx : some [d] = some xs := hx
    cases hx
    obtain ⟨F2, r2, f2⟩ := RE.names (js := vs) hp (js' := [j]) hsub re2 (.cons fz .nil) lw
    exact fin [x] F2 r2 f2
  | tup ks =>
    cases d with
    | tup ds' =>
      have hx : (if ds'.length = ks.length then some ds' else none) = some xs := hx
      by_cases hl : ds'.length = ks.length
      · rw [if_pos hl] at hx
        cases hx
        cases fz with
        | tup l fl =>
          rename_i p ws
          obtain ⟨F2, r2, f2⟩ := RE.names (js := vs) hp (js' := ks) hsub re2 fl lw
          exact ⟨_, _, rfl, ex_t hid_ex l, fl.length.trans hl, gNames_of (σ := wipe σ' vs) (fl.length.trans hl) (fin ws F2 r2 f2)⟩
      · rw [if_neg hl] at hx
        cases hx
    | _ => cases hx
theorem Cso.write (t : Trk T H) (hn : H Dl = none) (hg : G.P0 Dl ∨ G.H0 Dl = none) (c : Cso G T H env F Dl σ' vs T1 H1 e F1 ob) :
    Cso G T H env F Dl σ' vs T1 (upd H1 Dl ob1) e F1 ob1 ∧ Ex (hid T1 H1) (hid T1 (upd H1 Dl ob1)) := by
  have c5 : Chg T1 H1 (fun a => a = Dl) T1 (upd H1 Dl ob1) := Chg.write c.re.trk rfl
  have sub5 : Sub T1 (fun a => a = Dl) := fun a h => by rw [h]; exact c.tD
  exact ⟨⟨c.chg.trans t c5 (fun a h => by rw [h]; exact .inr hn), c.re.chg c5 sub5 (fun a h => by rw [h]; exact hg) fun k hk a ha h => c.nF k hk (by rw [← h]; exact ha), c.own, c.vw, c.tD, upd_same, c.nF⟩, c5.hid sub5⟩
end
def wSS (wi : WI) (tg : Tgt) (vs : List Nat) (t : WT) (w : WE) : WE := fun env Q => wi env fun ds e0 => ∃ J : Nat → List Str → Env → Prop, J 0 [] e0 ∧
  (∀ i d acc e, ds[i]? = some d → J i acc e → ∃ xs, tg.get d = some xs ∧ t (setE (wipeE e vs) tg.js xs) fun b e2 => if b = true then w e2 fun r e3 => ∃ x : Str, r = .f (.str x) ∧ acc.length < 1000 ∧ J (i + 1) (acc ++ [x]) e3 else J (i + 1) acc e2) ∧
  ∀ acc e, J ds.length acc e → acc.length < 64 ∧ ∀ ys : List Str, ys.Nodup → sortedS ys = true → (∀ y, y ∈ ys ↔ y ∈ acc) → Q (.f (.lst (ys.map D.str))) (wipeE e vs)
def EndT (X : Cx) (Q : VK) (D : Addr) (H : Hp) : Prop := ∃ l : List Str, H D = some (UniO X D l) ∧ l.Nodup ∧ l.length < 64 ∧ ∀ (ys : List Str) (p : Addr), ys.Nodup → sortedS ys = true → (∀ y, y ∈ ys ↔ y ∈ l) → H p = none → Q (.ref p) (upd H p (.lst (ys.map V.str)))
section
variable {X : Cx} {G : Gx} {wi : WI} {tg : Tgt} {vs : List Nat} {t : WT} {w : WE}
theorem ssW {tt : TT} (hi : MonoI wi) (hw : MonoE w) (htt : ∀ σ H Q, tWT G t σ H Q → tt σ H Q) (mt : MonoT t) (hsub : ∀ j ∈ tg.js, j ∈ vs) (hp : ∀ i ∈ vs, G.prot i = false) {σ : L2.St} (hlen : ∀ i ∈ vs, i < σ.length) {H : Hp} {Q : VK} (h : tW G (wSS wi tg vs t w) σ H Q) :
    tScT X (tWI G wi) (tg.tg G.K) tt (tW G w) vs σ H (EndT X Q) := by
  obtain ⟨T, env, F, r, q⟩ := h
  refine ⟨T, env, F, r, hi _ _ _ (fun ds e0 ⟨J, j0, js, jd⟩ It T1 H1 F1 Bs a it b0 => ?_) q⟩
  intro Dl nD
  have Hnone : H Dl = none := by
    cases e : H Dl with
    | none => rfl
    | some u => exact absurd nD (a.chg.dom Dl (by rw [e]; exact nofun))
  have G0none : G.P0 Dl ∨ G.H0 Dl = none := .inr (by
    cases e : G.H0 Dl with
    | none => rfl
    | some u => exact absurd Hnone (r.st.dom Dl (by rw [e]; exact nofun)))
  let S : Nat → Hp → Prop := fun i H' => ∃ T' e F' acc, Cso G T H env F Dl σ vs T' H' e F' (UniO X Dl (uniq acc)) ∧ Bs T' H' ∧ J i acc e
  have start : S 0 (upd H1 Dl (NewT X Dl)) := by
    have a1 := att_new (o := NewT X Dl) a.re nD
    have re := a1.re.wipeE vs
    refine ⟨_, e0, F1, [], ⟨(a.trans r.trk a1).chg, re, fun x ⟨k, ⟨o, hk⟩, hx⟩ => a.own x ⟨k, ⟨o, (wipeE_some hk).1⟩, hx⟩, fun k o hk => a.vw k o (wipeE_some hk).1, .inr rfl, by rw [upd_same, newT_uni]; rfl, fun k ⟨s, hk⟩ hF => ?_⟩, it.keep _ _ _ _ b0 (hid_new nD), j0⟩
    obtain ⟨v, _, z⟩ := a.re.slot k s (wipeE_some hk).1
    exact a.re.trk Dl (z.sub Dl hF) nD
  refine ⟨fun i m H' => m = ds.length - i ∧ i ≤ ds.length ∧ S i H', ⟨_, rfl, Nat.zero_le _, start⟩, ?_⟩
  rintro i m H' ⟨rfl, hi', T', e, F', acc, c, b', j'⟩
  by_cases hlt : i < ds.length
  · obtain ⟨go, yl⟩ := it.go i T' H' c.re.trk b' hlt
    refine .inr ⟨go, S (i + 1), fun H2 s2 => ⟨ds.length - (i + 1), by omega, rfl, hlt, s2⟩, fun x H2 y => ?_⟩
    obtain ⟨d, hd, ex, fz⟩ := yl x H2 y
    obtain ⟨xs, hx, jt⟩ := js i d acc e hd j'
    unfold stepT
    refine c.turn r.trk ex fz hx hsub hp hlen fun σ2 F2 c2 ln sg => ⟨wipe_eq ln sg, ?_⟩
    refine htt _ _ _ ⟨T', _, F2, c2.re, mt _ _ _ (fun b e2 q T3 H3 F3 a3 => ?_) jt⟩
    obtain ⟨c3, x3⟩ := c2.ev r.trk a3
    have x23 := (hid_mono (T := T') ex).trans x3
    cases b with
    | false =>
      have q : J (i + 1) acc e2 := q
      exact ite_ff ⟨T3, e2, F3, acc, c3.back (by simp) ln.symm (fun k hk => (sg k hk).symm) hp, it.keep _ _ _ _ b' x23, q⟩
    | true =>
      refine ite_tt ⟨T3, e2, F3, a3.re, hw _ _ _ (fun s e8 ⟨x8s, hs, hz, j8⟩ y8 T8 H8 F8 fr8 a8 z8 => ?_) q⟩
      subst hs
      obtain ⟨c8, x8⟩ := c3.ev r.trk a8
      have fz8 : Fz G.K (hid T8 H8) y8 (.str x8s) := z8.rel.1
      cases fz8
      obtain ⟨c9, x9⟩ := c8.write (ob1 := UniO X Dl (uniq (acc ++ [x8s]))) r.trk Hnone G0none
      have lu := (uniq_ok acc).2.2
      refine ⟨x8s, fun q => (uniq acc).contains q, (uniq acc).length, rfl, c8.hD, by unfold scanBound; omega, ?_⟩
      rw [addT_uni, ← uniq_snoc]
      exact ⟨T8, e8, F8, acc ++ [x8s], c9.back (by simp) ln.symm (fun k hk => (sg k hk).symm) hp, it.keep _ _ _ _ b' ((x23.trans x8).trans x9), j8⟩
  · have z : i = ds.length := by omega
    subst z
    obtain ⟨h64, hq⟩ := jd acc e j'
    obtain ⟨u1, u2, u3⟩ := uniq_ok acc
    refine .inl ⟨it.stop _ T' H' b' rfl, uniq acc, c.hD, u2, by omega, fun ys p nd so mm np => ?_⟩
    have a' : Att G σ T H env F T' H' (wipeE e vs) F' := ⟨c.chg, c.re, c.own, c.vw⟩
    exact hq ys nd so (fun y => (mm y).trans (u1 y)) (.ref p) T' _ F' [] (a'.trans r.trk (Att.ex a'.re (Ex.new np))) (res_f (fz_new_l a'.re.trk np (fzl_strs ys)))
theorem mono_ss (mi : MonoI wi) : MonoE (wSS wi tg vs t w) := fun env Q Q' i q => mi _ _ _ (fun ds e0 ⟨J, j0, js, jd⟩ => ⟨J, j0, js, fun acc e hj => ⟨(jd acc e hj).1, fun ys a b c => i _ _ ((jd acc e hj).2 ys a b c)⟩⟩) q
end
section
variable {X : Cx} {G : Gx} {elt tg iter c : Expr} {scope : Scope} {own : List (Str × Nat)} {pos spos p : Pos} {wi : WI} {t : Tgt} {w : WE} {wt : WT}
theorem pe_sortedSC {g : TG} {tt : TT} {te : TE} {ti : TI} {ifs : List Expr} (hc : X.calm = true) (hN : X.N.Nodup) (hgl : Gl X "sorted") (hm : X.mg "sorted" = none) (hi : PI X tg iter ti) (ok : BlkOk X.N X.env.scope scope own)
    (hg : InBlk X scope fun Y => PG Y tg g) (ht : InBlk X scope fun Y => PTs Y ifs tt) (he : InBlk X scope fun Y => PE Y elt te) (hs : ∀ x, foldedSetIterable iter X.env x = pure x) :
    PE X (.Call (.Name "sorted" p) [.SetComp elt [⟨tg, iter, ifs, 0⟩] scope spos] [] pos) (fun σ H Q => tScT X ti g tt te (own.map (·.2)) σ H (EndT X Q)) := by
  refine ⟨fun pins s σ H Q I h => ?_⟩
  refine Call_ (ld_blt I hgl hm boot_sorted ?_)
  refine PyProof.Rows.callWith_builtin1 (PyProof.Rows.args_cons ?_ rfl) rfl rfl
  rw [PpSet.eval_SetComp]
  refine scT_core hc hN I hi ok hg ht he hs h fun D C s' m H' I' ⟨l, hD, nd, h64, q⟩ hn f => ⟨m, hn, fun h2 sb => ?_⟩
  obtain ⟨f0, f1, f2, f3, f4, f5⟩ := f
  have I2 := I'.turned (t' := s'.toks) (fun b o hb e => (sb.2 b hb).trans e) f0 f1 f3 f4 f5
  have R : SetT X.prog X.w h2 D (fun q => l.contains q) l.length := (I2.hok D _ hD).1
  refine PyProof.Rows.args_nil ?_
  refine SO.sorted_ord (s := { s' with heap := h2, toks := s'.toks }) R (I2.ok.hd hc) h64 fun s3 p3 out c3 ys k g3 o z hp sy so mem len => ?_
  have fresh : H' p3 = none := I2.hok.fresh z
  have nd3 : ys.Nodup := SO.nodup_of_len nd (fun y hy => (mem y).mpr (by simpa using hy)) (Nat.le_of_eq len)
  obtain ⟨h3, g2, d2, t2, o2⟩ := s3
  dsimp only at g3 o hp k z
  subst g3 o
  refine ⟨.ref p3, _, ?_, rfl, q ys p3 nd3 so (fun y => (mem y).trans (by simp)) fresh⟩
  have ob : ObjOk X.prog X.w (upd H' p3 (.lst (ys.map V.str))) h3 p3 (.lst (ys.map V.str)) := ⟨by rw [List.length_map, len]; exact Nat.le_trans (Nat.le_of_lt h64) (Nat.le_of_ble_eq_true rfl), out.toList, c3, vals_of_strs sy, hp⟩
  exact Inv.call (s := { s' with heap := h2, toks := s'.toks }) (ch := []) I2 (Un.laid k z fresh) (I2.hok.laid k z ob) I2.bare fun b hb => nomatch hb
theorem ge_sortedSC1 (hc : X.calm = true) (hN : X.N.Nodup) (hgl : Gl X "sorted") (hm : X.mg "sorted" = none) (hi : GI X G tg iter wi) (ok : BlkOk X.N X.env.scope scope own) (hg : PGB X scope tg (t.tg G.K)) (ht : GTB X scope G c wt) (he : GEB X scope G elt w)
    (hsub : ∀ j ∈ t.js, j ∈ own.map (·.2)) (hp : ∀ i ∈ own.map (·.2), G.prot i = false) (hL : ∀ i ∈ own.map (·.2), i < X.N.length) (hs : ∀ x, foldedSetIterable iter X.env x = pure x := by intro _; rfl) :
    GE X G (.Call (.Name "sorted" p) [.SetComp elt [⟨tg, iter, [c], 0⟩] scope spos] [] pos) (wSS wi t (own.map (·.2)) wt w) := by
  refine ⟨?_, mono_ss hi.mono⟩
  have pe := pe_sortedSC (p := p) (pos := pos) (spos := spos) hc hN hgl hm hi.pi ok hg (fun s H C cl fp => pts_one (ht s H C cl fp).pt) (fun s H C cl fp => (he s H C cl fp).pe) hs
  refine ⟨fun pins s σ H Q I h => pe.run pins s σ H Q I ?_⟩
  have hl := I.len
  exact ssW hi.mono (allB_mono he) (fun _ _ _ q => q) (allB_monoT ht) hsub hp (fun i h => by have := hL i h; omega) h
end
section
variable {wi : WI} {tg : Tgt} {vs : List Nat} {t : WT} {w : WE} {env : Env} {Q : Sl → Env → Prop}
theorem x_ss (h : wi env fun ds e0 => ∃ J : Nat → List Str → Env → Prop, J 0 [] e0 ∧
  (∀ i d acc e, ds[i]? = some d → J i acc e → ∃ xs, tg.get d = some xs ∧ t (setE (wipeE e vs) tg.js xs) fun b e2 => if b = true then w e2 fun r e3 => ∃ x : Str, r = .f (.str x) ∧ acc.length < 1000 ∧ J (i + 1) (acc ++ [x]) e3 else J (i + 1) acc e2) ∧
  ∀ acc e, J ds.length acc e → acc.length < 64 ∧ ∀ ys : List Str, ys.Nodup → sortedS ys = true → (∀ y, y ∈ ys ↔ y ∈ acc) → Q (.f (.lst (ys.map D.str))) (wipeE e vs)) : wSS wi tg vs t w env Q := h
end
end Fx

namespace Fx
open PySem PySem.Spec PyProof.Rows L2 Evl Lk
/-! ### list * int, an owned list -/
def wMulO (w1 w2 : WE) : WE := fun env Q => w1 env fun r1 e1 => ∃ a, r1 = .f (.lst a) ∧ w2 e1 fun r2 e2 => ∃ n : Int, r2 = .f (.int n) ∧ a.length ≤ 1000 ∧ 0 ≤ n ∧ n ≤ 1000 ∧ Q (.own (.lst (List.replicate n.toNat a).flatten)) e2
section
variable {X : Cx} {G : Gx} {w1 w2 : WE} {a b : Expr} {pos : Pos}
theorem ge_mulO (ha : GE X G a w1) (hb : GE X G b w2) (hK : X.K = G.K := by rfl) : GE X G (.BinOp a .Mult b pos) (wMulO w1 w2) := by
  refine ⟨pe_imp (pe_op op_mulL ha.pe hb.pe) fun σ H Q ⟨T, env, F, r, q⟩ => ⟨T, env, F, r, ha.mono _ _ _ (fun r1 e1 ⟨xs, h1, q⟩ v1 T1 H1 F1 f1 a1 z1 => ?_) q⟩, fun env Q Q' j q => ha.mono _ _ _ (fun r1 e1 ⟨a, h1, q⟩ => ⟨a, h1, hb.mono _ _ _ (fun r2 e2 ⟨b, h3, h4, h5, h6, q⟩ => ⟨b, h3, h4, h5, h6, j _ _ q⟩) q⟩) q⟩
  subst h1
  refine ⟨T1, e1, F1, a1.re, hb.mono _ _ _ (fun r2 e2 ⟨n, c2, hz, n0, n1, q⟩ v2 T2 H2 F2 f2 a2 z2 => ?_) q⟩
  subst c2
  obtain ⟨p1, vs, rfl, l1, g1⟩ := Cz.of (Fz.att a1.re a2 z1.rel.1)
  have z2' : Fz G.K (hid T2 H2) v2 (.int n) := z2.rel.1
  cases z2'
  have a12 := a1.trans r.trk a2
  refine ⟨p1, vs, n, rfl, rfl, by rw [hK]; exact l1, by rw [g1.length]; exact hz, n0, n1, fun p np => ?_⟩
  exact q _ _ _ F2 [p] (a12.trans r.trk (att_new a2.re np)) (res_trans r.trk a12 (own_new a2.re np (.lst (.inr rfl) upd_same ((g1.rep _).ex (hid_new np)))))
theorem x_mulO {env : Env} {Q : Sl → Env → Prop} (h : w1 env fun r1 e1 => ∃ a, r1 = .f (.lst a) ∧ w2 e1 fun r2 e2 => ∃ n : Int, r2 = .f (.int n) ∧ a.length ≤ 1000 ∧ 0 ≤ n ∧ n ≤ 1000 ∧ Q (.own (.lst (List.replicate n.toNat a).flatten)) e2) : wMulO w1 w2 env Q := h
end
end Fx

namespace Fx.ZM
open PySem PySem.Spec PyProof.Rows L2
/-! ### zip(a list, a tuple) -/
/-- one of the two that are zipped: where it stands, what it gives -/
structure Src (P : Program) (w : World) (it l : Addr) (items : Nat → Option Value) (St : Heap → Nat → Prop) : Prop where
  at_ : ∀ {h g : Heap} {k : Nat}, St h k → (∀ o, h.get? it = some o → g.get? it = some o) → (∀ o, h.get? l = some o → g.get? l = some o) → St g k
  item : ∀ {A : Around} {E : Value → Shared → Prop} {s : Shared} {k : Nat} {x : Value} {Q : Value → Shared → Prop}, St s.heap k → items k = some x → (∀ g, St g (k + 1) → Heap.SameBut it s.heap g → Q x { s with heap := g }) → wpAny (model P w) A (Builtin.SmallTypes.nextOf (.ref it)) Q E s
  stop : ∀ {A : Around} {E : Value → Shared → Prop} {s : Shared} {k : Nat} {Q : Value → Shared → Prop}, A.handled = none → St s.heap k → items k = none →
    (∀ g e, Heap.ExtBut it s.heap g → (∃ o, g.get? e = some o ∧ o.cls = .type "StopIteration") → E (.ref e) { s with heap := g }) → wpAny (model P w) A (Builtin.SmallTypes.nextOf (.ref it)) Q E s
section
variable {P : Program} {w : World} {A : Around} {E : Value → Shared → Prop} {s : Shared}
theorem src_list {it l : Addr} {xs : Array Value} (ne : l ≠ it) : Src P w it l (fun k => xs[k]?) (fun h k => h.IsListIter it l k ∧ h.IsList l xs) where
  at_ := fun st a b => ⟨st.1.at fun o e => a o e, st.2.at fun o e => b o e⟩
  item := fun st hx q => wpAny_nextOf_list_item st.1 st.2 hx fun g a sb => q g ⟨a, st.2.at fun o e => (sb.2 l ne).trans e⟩ sb
  stop := fun hh st hx q => wpAny_nextOf_list_end hh st.1 st.2 hx fun g e a b => q g e a b
theorem src_tuple {it l : Addr} {xs : Array Value} (ne : l ≠ it) : Src P w it l (fun k => xs[k]?) (fun h k => h.IsTupleIter it l k ∧ h.IsTuple l xs) where
  at_ := fun st a b => ⟨st.1.at fun o e => a o e, st.2.at fun o e => b o e⟩
  item := fun st hx q => RZ.nextOf_tuple_item st.1 st.2 hx fun g a sb => q g ⟨a, st.2.at fun o e => (sb.2 l ne).trans e⟩ sb
  stop := fun hh st hx q => RZ.nextOf_tuple_end hh st.1 st.2 hx fun g e a b => q g e a b
variable {z TI TO i1 i2 l1 l2 : Addr} {I1 I2 : Nat → Option Value} {S1 S2 : Heap → Nat → Prop} {k1 k2 : Nat} {x y a b : Value}
theorem Src.but {c : Addr} {h g : Heap} {k : Nat} (S : Src P w i1 l1 I1 S1) (st : S1 h k) (e : Heap.ExtBut c h g) (n1 : i1 ≠ c) (n2 : l1 ≠ c) : S1 g k := S.at_ st (fun o h => e _ _ n1 h) fun o h => e _ _ n2 h
theorem next_item (F1 : Src P w i1 l1 I1 S1) (F2 : Src P w i2 l2 I2 S2) (D : ZipApart z TI TO i1 i2 l1 l2) {Q : Value → Shared → Prop} (hz : IsZip s.heap z TI TO .none) (hTI : IsPair s.heap TI (.ref i1) (.ref i2)) (hTO : IsPair s.heap TO a b)
    (s1 : S1 s.heap k1) (s2 : S2 s.heap k2) (hx : I1 k1 = some x) (hy : I2 k2 = some y)
    (q : ∀ g, IsZip g z TI TO (rawInt s.heap.objs.size) → IsPair g TO x y → S1 g (k1 + 1) → S2 g (k2 + 1) → IsPair g s.heap.objs.size x y → g.objs.size = s.heap.objs.size + 1 → (∀ c o, c ≠ z → c ≠ TO → c ≠ i1 → c ≠ i2 → s.heap.get? c = some o → g.get? c = some o) → Q (.ref s.heap.objs.size) { s with heap := g }) :
    wpAny (model P w) A (Builtin.«zip.__next__» ⟨[.ref z], []⟩) (fun fin s' => ∃ v, fin = .done (.ret v) ∧ Q v s') E s := by
  have l1z := Heap.lt_size hz
  refine (show wpAny _ _ (field (.ref z) 2 >>= _) _ _ _ from wpAny_bind (wpAny_field hz rfl (x := .bool false) rfl (show wpAny _ _ (field (.ref z) 3 >>= _) _ _ _ from wpAny_bind (wpAny_field hz rfl (x := .ref TI) rfl (wpAny_bind (wpAny_seqItems hTI rfl ?_))))))
  refine (show wpAny _ _ (Builtin.SmallTypes.ownedTupleIsFree (.ref z) >>= _) _ _ _ from wpAny_bind ?_)
  unfold Builtin.SmallTypes.ownedTupleIsFree
  refine wpAny_bind (wpAny_field hz rfl (x := .none) rfl (wpAny_pure ?_))
  simp only [if_true]
  refine wpAny_bind (wpAny_rule (wpAny_bind (wpAny_field hz rfl (x := .ref TO) rfl (wpAny_bind (wpAny_setField_rec hz (by simp) fun ha za sa => wpAny_bind ?_)))))
  replace za : IsZip ha z TI TO .ellipsis := za
  simp only [List.zipIdx_cons, List.zipIdx_nil, List.forIn_cons, List.forIn_nil]
  refine wpAny_bind (wpAny_bind (wpAny_onRaise (show wpAny _ _ (Builtin.SmallTypes.nextOf (.ref i1) >>= _) _ _ _ from wpAny_bind (F1.item (F1.but s1 sa.extBut D.i1z D.l1z) hx fun hb s1b sb => wpAny_pure ?_))))
  have tb : IsPair hb TO a b := sb.extBut _ _ D.TOi1 (sa.extBut _ _ D.TOz hTO)
  refine wpAny_bind (wpAny_seqItems tb rfl (wpAny_bind (wpAny_updateSeq_pair tb fun hc tc sc => wpAny_bind (wpAny_letGo (wpAny_pure ?_)))))
  replace tc : IsPair hc TO x b := tc
  refine wpAny_bind (wpAny_bind (wpAny_onRaise (show wpAny _ _ (Builtin.SmallTypes.nextOf (.ref i2) >>= _) _ _ _ from wpAny_bind (F2.item (F2.but (F2.but (F2.but s2 sa.extBut D.i2z D.l2z) sb.extBut D.i12.symm D.l2i1) sc.extBut D.TOi2.symm D.l2TO) hy fun hd s2d sd => wpAny_pure ?_))))
  have td : IsPair hd TO x b := sd.extBut _ _ D.TOi2 tc
  refine wpAny_bind (wpAny_seqItems td rfl (wpAny_bind (wpAny_updateSeq_pair td fun he te se => wpAny_bind (wpAny_letGo (wpAny_pure (wpAny_pure ?_))))))
  replace te : IsPair he TO x y := te
  refine wpAny_bind (wpAny_seqItems te rfl (wpAny_bind (wpAny_newTuple ?_)))
  have sz : he.objs.size = s.heap.objs.size := by rw [se.1, sd.1, sc.1, sb.1, sa.1]
  have ze : IsZip he z TI TO .ellipsis := se.extBut _ _ D.TOz.symm (sd.extBut _ _ D.i2z.symm (sc.extBut _ _ D.TOz.symm (sb.extBut _ _ D.i1z.symm za)))
  have ke : ∀ c o, c ≠ z → c ≠ TO → c ≠ i1 → c ≠ i2 → s.heap.get? c = some o → he.get? c = some o := fun c o n1 n2 n3 n4 e => se.extBut _ _ n2 (sd.extBut _ _ n4 (sc.extBut _ _ n2 (sb.extBut _ _ n3 (sa.extBut _ _ n1 e))))
  have s1e : S1 he (k1 + 1) := F1.but (F1.but (F1.but s1b sc.extBut D.TOi1.symm D.l1TO) sd.extBut D.i12 D.l1i2) se.extBut D.TOi1.symm D.l1TO
  have s2e : S2 he (k2 + 1) := F2.but s2d se.extBut D.TOi2.symm D.l2TO
  have zlt : z < he.objs.size := Heap.lt_size ze
  refine (show wpAny _ _ (Builtin.SmallTypes.ownedTupleHandOut (.ref z) (.ref he.objs.size) >>= _) _ _ _ from wpAny_bind ?_)
  unfold Builtin.SmallTypes.ownedTupleHandOut
  have zf : IsZip (he.push { cls := .type "tuple", data := .seq #[x, y] }) z TI TO .ellipsis := Heap.get?_push_of_some _ ze
  refine wpAny_bind (wpAny_setField_rec zf (by simp) fun hg zg sg => ?_)
  replace zg : IsZip hg z TI TO (rawInt he.objs.size) := zg
  refine wpAny_setField_rec zg (by simp) fun hi zi si => ?_
  replace zi : IsZip hi z TI TO (rawInt he.objs.size) := zi
  have up : ∀ c o, c ≠ z → he.get? c = some o → hi.get? c = some o := fun c o n e => si.extBut _ _ n (sg.extBut _ _ n (Heap.get?_push_of_some _ e))
  have ti : IsPair hi he.objs.size x y := si.extBut _ _ (Nat.ne_of_gt zlt) (sg.extBut _ _ (Nat.ne_of_gt zlt) (Heap.get?_push_size _ rfl))
  have zi2 : hi.objs.size = he.objs.size + 1 := by rw [si.1, sg.1, Heap.size_push]
  rw [sz] at zi ti zi2
  refine wpAny_pure ⟨_, rfl, (show Q (.ref he.objs.size) _ from ?_)⟩
  rw [sz]
  exact q hi zi (up _ _ D.TOz te) (F1.at_ s1e (fun o e => up _ o D.i1z e) fun o e => up _ o D.l1z e) (F2.at_ s2e (fun o e => up _ o D.i2z e) fun o e => up _ o D.l2z e) ti zi2 fun c o n1 n2 n3 n4 e => up c o n1 (ke c o n1 n2 n3 n4 e)
theorem next_stop (F1 : Src P w i1 l1 I1 S1) (F2 : Src P w i2 l2 I2 S2) (D : ZipApart z TI TO i1 i2 l1 l2) {Q : Fin → Shared → Prop} (hh : A.handled = none) (hz : IsZip s.heap z TI TO .none) (hTI : IsPair s.heap TI (.ref i1) (.ref i2)) (hTO : IsPair s.heap TO a b)
    (s1 : S1 s.heap k1) (s2 : S2 s.heap k2) (hend : I1 k1 = none ∨ I2 k2 = none)
    (q : ∀ g e, (∀ c o, c ≠ z → c ≠ TO → c ≠ i1 → c ≠ i2 → s.heap.get? c = some o → g.get? c = some o) → (∃ o, g.get? e = some o ∧ o.cls = .type "StopIteration") → E (.ref e) { s with heap := g }) :
    wpAny (model P w) A (Builtin.«zip.__next__» ⟨[.ref z], []⟩) Q E s := by
  refine (show wpAny _ _ (field (.ref z) 2 >>= _) _ _ _ from wpAny_bind (wpAny_field hz rfl (x := .bool false) rfl (show wpAny _ _ (field (.ref z) 3 >>= _) _ _ _ from wpAny_bind (wpAny_field hz rfl (x := .ref TI) rfl (wpAny_bind (wpAny_seqItems hTI rfl ?_))))))
  refine (show wpAny _ _ (Builtin.SmallTypes.ownedTupleIsFree (.ref z) >>= _) _ _ _ from wpAny_bind ?_)
  unfold Builtin.SmallTypes.ownedTupleIsFree
  refine wpAny_bind (wpAny_field hz rfl (x := .none) rfl (wpAny_pure ?_))
  simp only [if_true]
  refine wpAny_bind (wpAny_rule (wpAny_bind (wpAny_field hz rfl (x := .ref TO) rfl (wpAny_bind (wpAny_setField_rec hz (by simp) fun ha za sa => wpAny_bind ?_)))))
  replace za : IsZip ha z TI TO .ellipsis := za
  simp only [List.zipIdx_cons, List.zipIdx_nil, List.forIn_cons, List.forIn_nil]
  refine wpAny_bind (wpAny_bind (wpAny_onRaise (show wpAny _ _ (Builtin.SmallTypes.nextOf (.ref i1) >>= _) _ _ _ from ?_)))
  cases hx : I1 k1 with
  | none =>
    refine wpAny_bind (F1.stop hh (F1.but s1 sa.extBut D.i1z D.l1z) hx fun hb e sb ⟨oe, hoe, ce⟩ => ?_)
    have zb : IsZip hb z TI TO .ellipsis := sb _ _ D.i1z.symm za
    have nz : e ≠ z := fun q => by subst q; rw [zb] at hoe; cases hoe; simp at ce
    exact wpAny_setField_rec zb (by simp) fun hc _ sc => q hc e (fun c o n1 _ n3 _ x => sc.extBut _ _ n1 (sb _ _ n3 (sa.extBut _ _ n1 x))) ⟨oe, sc.extBut _ _ nz hoe, ce⟩
  | some x =>
    have hy : I2 k2 = none := hend.resolve_left (by rw [hx]; exact nofun)
    refine wpAny_bind (F1.item (F1.but s1 sa.extBut D.i1z D.l1z) hx fun hb s1b sb => wpAny_pure ?_)
    have tb : IsPair hb TO a b := sb.extBut _ _ D.TOi1 (sa.extBut _ _ D.TOz hTO)
    refine wpAny_bind (wpAny_seqItems tb rfl (wpAny_bind (wpAny_updateSeq_pair tb fun hc tc sc => wpAny_bind (wpAny_letGo (wpAny_pure ?_)))))
    refine wpAny_bind (wpAny_bind (wpAny_onRaise (show wpAny _ _ (Builtin.SmallTypes.nextOf (.ref i2) >>= _) _ _ _ from wpAny_bind (F2.stop hh (F2.but (F2.but (F2.but s2 sa.extBut D.i2z D.l2z) sb.extBut D.i12.symm D.l2i1) sc.extBut D.TOi2.symm D.l2TO) hy fun hd e sd ⟨oe, hoe, ce⟩ => ?_))))
    have zd : IsZip hd z TI TO .ellipsis := sd _ _ D.i2z.symm (sc.extBut _ _ D.TOz.symm (sb.extBut _ _ D.i1z.symm za))
    have nz : e ≠ z := fun q => by subst q; rw [zd] at hoe; cases hoe; simp at ce
    exact wpAny_setField_rec zd (by simp) fun he _ se => q he e (fun c o n1 n2 n3 n4 x => se.extBut _ _ n1 (sd _ _ n4 (sc.extBut _ _ n2 (sb.extBut _ _ n3 (sa.extBut _ _ n1 x))))) ⟨oe, se.extBut _ _ nz hoe, ce⟩
end
end Fx.ZM

namespace Fx.ZM
open PySem PySem.Spec PyProof.Rows L2
abbrev zh1 (h : Heap) (l1 : Addr) : Heap := h.push { cls := .type "list_iterator", data := .fields #[.ref l1, .int 0 0] }
abbrev zh2 (h : Heap) (l1 l2 : Addr) : Heap := (zh1 h l1).push { cls := .type "tuple_iterator", data := .fields #[.ref l2, .int 0 0] }
abbrev zh3 (h : Heap) (l1 l2 : Addr) : Heap := (zh2 h l1 l2).push { cls := .type "tuple", data := .seq #[.ref h.objs.size, .ref (zh1 h l1).objs.size] }
abbrev zh4 (h : Heap) (l1 l2 : Addr) : Heap := (zh3 h l1 l2).push { cls := .type "tuple", data := .seq #[.none, .none] }
abbrev zh5 (h : Heap) (l1 l2 : Addr) : Heap := (zh4 h l1 l2).push { cls := .type "zip", data := .fields #[.none, .bool false, .bool false, .ref (zh2 h l1 l2).objs.size, .ref (zh3 h l1 l2).objs.size] }
theorem meets_new (l1 l2 : Addr) (xs ys : Array Value) :
    Meets (Builtin.«zip.__new__» ⟨[.type "zip", .ref l1, .ref l2], []⟩) (fun _ R s => s.heap.IsList l1 xs ∧ s.heap.IsTuple l2 ys ∧ R (.ok (.ret (.ref (zh4 s.heap l1 l2).objs.size))) { s with heap := zh5 s.heap l1 l2 }) :=
  .of_wp fun prog w A R s h => by
    obtain ⟨hp, g, d, tk, os⟩ := s
    obtain ⟨hl1, hl2, h⟩ := h
    have hsub := sub_zip
    have m1 : Heap.IsList (Shared.heap ⟨hp, g, d, tk, os⟩) l1 xs := hl1
    have m2 : Heap.IsTuple (Shared.heap ⟨hp.push { cls := .type "list_iterator", data := .fields #[.ref l1, .int 0 0] }, g, d, tk, os⟩) l2 ys := Heap.IsTuple.push hl2 _
    wp_walk using wpAny_pyIter_list m1, wpAny_pyIter_tuple m2
    exact ⟨_, rfl, h⟩
section
variable {P : Program} {w : World} {A : Around} {E : Value → Shared → Prop} {s : Shared}
theorem call_lt {l1 l2 : Addr} {xs ys : Array Value} {Q : Value → Shared → Prop} (m1 : s.heap.IsList l1 xs) (m2 : s.heap.IsTuple l2 ys)
    (q : ∀ g, IsZip g (s.heap.objs.size + 4) (s.heap.objs.size + 2) (s.heap.objs.size + 3) .none → IsPair g (s.heap.objs.size + 2) (.ref s.heap.objs.size) (.ref (s.heap.objs.size + 1)) → IsPair g (s.heap.objs.size + 3) .none .none →
      g.IsListIter s.heap.objs.size l1 0 → g.IsTupleIter (s.heap.objs.size + 1) l2 0 → (∀ c o, s.heap.get? c = some o → g.get? c = some o) → Q (.ref (s.heap.objs.size + 4)) { s with heap := g }) : wpAny (model P w) A (call (.type "zip") [.ref l1, .ref l2]) Q E s := by
  refine callType_new F.called_zip (by decide) (F.typeCall_zip_2 _ _) (F.newCall_zip_2 _ _) (fun obj => F.args_object_init_3 obj _ _) F.entry_zip_new (meets_new l1 l2 xs ys) ⟨m1, m2, ?_⟩
  have e1 : (zh1 s.heap l1).objs.size = s.heap.objs.size + 1 := Heap.size_push ..
  have e2 : (zh2 s.heap l1 l2).objs.size = s.heap.objs.size + 2 := by rw [Heap.size_push, e1]
  have e3 : (zh3 s.heap l1 l2).objs.size = s.heap.objs.size + 3 := by rw [Heap.size_push, e2]
  have e4 : (zh4 s.heap l1 l2).objs.size = s.heap.objs.size + 4 := by rw [Heap.size_push, e3]
  have q5 : (zh5 s.heap l1 l2).get? (zh4 s.heap l1 l2).objs.size = some _ := Heap.get?_push_size _ rfl
  have q4 : (zh5 s.heap l1 l2).get? (zh3 s.heap l1 l2).objs.size = some _ := Heap.get?_push_of_some _ (Heap.get?_push_size _ rfl)
  have q3 : (zh5 s.heap l1 l2).get? (zh2 s.heap l1 l2).objs.size = some _ := Heap.get?_push_of_some _ (Heap.get?_push_of_some _ (Heap.get?_push_size _ rfl))
  have q2 : (zh5 s.heap l1 l2).get? (zh1 s.heap l1).objs.size = some _ := Heap.get?_push_of_some _ (Heap.get?_push_of_some _ (Heap.get?_push_of_some _ (Heap.get?_push_size _ rfl)))
  have q1 : (zh5 s.heap l1 l2).get? s.heap.objs.size = some _ := Heap.get?_push_of_some _ (Heap.get?_push_of_some _ (Heap.get?_push_of_some _ (Heap.get?_push_of_some _ (Heap.get?_push_size _ rfl))))
  refine (show _ ∧ _ from ?_)
  rw [e2, e3, e4] at q5
  rw [e1, e2] at q3
  rw [e3] at q4
  rw [e1] at q2
  rw [e4]
  exact ⟨⟨_, q5, rfl⟩, q _ q5 q3 q4 ⟨_, q1, rfl, rfl⟩ ⟨_, q2, rfl, rfl⟩ fun c o x => Heap.get?_push_of_some _ (Heap.get?_push_of_some _ (Heap.get?_push_of_some _ (Heap.get?_push_of_some _ (Heap.get?_push_of_some _ x))))⟩
end
/-- the list at a, the tuple at b -/
def Itlt (K : PySem.W.Frag) (a b : Addr) : It :=
  ⟨fun i H => ∃ (xs ys : List V) (x y : V), SqL K H a xs ∧ SqT K H b ys ∧ xs[i]? = some x ∧ ys[i]? = some y,
    fun i H v H' => ∃ T x y, v = .ref T ∧ H T = none ∧ H' = upd H T (.tup [x, y]) ∧ (∀ xs, SqL K H a xs → xs[i]? = some x) ∧ ∀ ys, SqT K H b ys → ys[i]? = some y, fun i H => ∃ xs ys : List V, SqL K H a xs ∧ SqT K H b ys ∧ (xs.length ≤ i ∨ ys.length ≤ i)⟩
theorem five {α : Type} {c z TI TO i1 i2 : α} (h : c ∈ [z, TI, TO, i1, i2]) : c = z ∨ c = TI ∨ c = TO ∨ c = i1 ∨ c = i2 := by simpa using h
theorem turn_lt {P : Program} {w : World} {K : PySem.W.Frag} {elts : List Expr} {kk : Nat} {tpos : Pos} {a b z TI TO i1 i2 : Addr} (D : ZipApart z TI TO i1 i2 a b) :
    Turn P w K (.Tuple elts kk tpos) (Itlt K a b) [z, TI, TO, i1, i2] z (fun i h => IsZip h z TI TO .none ∧ IsPair h TI (.ref i1) (.ref i2) ∧ (∃ x y, IsPair h TO x y) ∧ h.IsListIter i1 a i ∧ h.IsTupleIter i2 b i) where
  mem := by simp
  obj := fun i h ⟨hz, hTI, ⟨x, y, hTO⟩, ⟨o1, e1, _, d1⟩, ⟨o2, e2, _, d2⟩⟩ c hc => by
    rcases five hc with q | q | q | q | q <;> rw [q]
    · exact ⟨_, hz, fun v q => nomatch q⟩
    · exact ⟨_, hTI, fun v q => nomatch q⟩
    · exact ⟨_, hTO, fun v q => nomatch q⟩
    · exact ⟨o1, e1, fun v q => by rw [d1] at q; cases q⟩
    · exact ⟨o2, e2, fun v q => by rw [d2] at q; cases q⟩
  keep := fun i h h' ⟨hz, hTI, ⟨x, y, hTO⟩, h1, h2⟩ k => ⟨k z (by simp) _ hz, k TI (by simp) _ hTI, ⟨x, y, k TO (by simp) _ hTO⟩, h1.at fun o q => k i1 (by simp) o q, h2.at fun o q => k i2 (by simp) o q⟩
  item := by
    intro X hP hw hK hc i pins s σ H E I hf ⟨hz, hTI, ⟨x0, y0, hTO⟩, h1, h2⟩ ⟨xs, ys, x, y, hqx, hqy, hx, hy⟩
    subst hP hw hK
    obtain ⟨its, rv, p, _⟩ := I.list hqx
    obtain ⟨its2, rv2, p2, _⟩ := I.tuple hqy
    obtain ⟨u, hu, ru⟩ := rv.get hx
    obtain ⟨u2, hu2, ru2⟩ := rv2.get hy
    have hzl : z < s.heap.objs.size := Heap.lt_size hz
    have hT : s.TypeIs (.ref z) "zip" := ⟨_, hz, rfl⟩
    have n1 : a ≠ i1 := D.l1i1
    have n2 : b ≠ i2 := D.l2i2
    unfold pyNext
    refine wpAny_bind (wpAny_attempt (wpAny_callSpecial?_slot (name := Str.ofString "__next__") hT F.slot_zip_next (wpAny_call_entry F.slot_zip_next hT F.entry_zip_next
      (next_item (x := u) (y := u2) (src_list (xs := its.toArray) n1) (src_tuple (xs := its2.toArray) n2) D hz hTI hTO ⟨h1, p.isList⟩ ⟨h2, p2⟩ (by simpa using hu) (by simpa using hu2) fun h' z' TO' h1' h2' hT' hsz hk => wpAny_pure ?_) (F.args_zip_next_1 _))))
    refine ⟨_, rfl, wpAny_letOwnedTupleGo_zip (s := { s with heap := h' }) z' fun h'' z'' sb => ?_⟩
    have hT2 : h''.get? s.heap.objs.size = some { cls := .type "tuple", data := .seq #[u, u2] } := (sb.2 _ (Nat.ne_of_gt hzl)).trans hT'
    have new : ObjOk X.prog X.w (upd H s.heap.objs.size (.tup [x, y])) h'' s.heap.objs.size (.tup [x, y]) := ⟨(show 2 ≤ sizeLine by decide), [u, u2], .cons ru (.cons ru2 .nil), ⟨_, hT2, rfl, _, rfl⟩⟩
    have I1 : Inv X pins σ (upd H s.heap.objs.size (.tup [x, y])) { s with heap := h'' } := I.turnedNew (t' := s.toks) (ch := [z, TI, TO, i1, i2]) (fun c o hb q =>
      (sb.2 c (fun q' => hb (by simp [q']))).trans (hk c o (fun q' => hb (by simp [q'])) (fun q' => hb (by simp [q'])) (fun q' => hb (by simp [q'])) (fun q' => hb (by simp [q'])) q)) hf (Nat.le_refl _) new
    refine ⟨.ref s.heap.objs.size, _, I1, rfl, ⟨_, x, y, rfl, I.hok.fresh (Nat.le_refl _), rfl, fun l hl => by rw [I.list_inj hl hqx]; exact hx, fun l hl => by rw [I.tuple_inj hl hqy]; exact hy⟩,
      ⟨z'', (sb.2 _ D.TIz).trans (hk _ _ D.TIz D.TITO D.TIi1 D.TIi2 hTI), ⟨u, u2, (sb.2 _ D.TOz).trans TO'⟩, h1'.1.at fun o q => (sb.2 _ D.i1z).trans q, h2'.1.at fun o q => (sb.2 _ D.i2z).trans q⟩, fun c hcm => ?_⟩
    have hlt : c < s.heap.objs.size := by
      rcases five hcm with q | q | q | q | q <;> rw [q]
      · exact hzl
      · exact Heap.lt_size hTI
      · exact Heap.lt_size hTO
      · obtain ⟨_, e1, _⟩ := h1; exact Heap.lt_size e1
      · obtain ⟨_, e2, _⟩ := h2; exact Heap.lt_size e2
    rw [upd_ne (Nat.ne_of_lt hlt)]
    exact (hf c hcm).1
  done := by
    intro X hP hw hK hc i pins s σ H E I hf ⟨hz, hTI, ⟨x0, y0, hTO⟩, h1, h2⟩ ⟨xs, ys, hqx, hqy, hend⟩
    subst hP hw hK
    obtain ⟨its, rv, p, _⟩ := I.list hqx
    obtain ⟨its2, rv2, p2, _⟩ := I.tuple hqy
    have le1 := rv.length
    have le2 := rv2.length
    have hT : s.TypeIs (.ref z) "zip" := ⟨_, hz, rfl⟩
    have he : its.toArray[i]? = none ∨ its2.toArray[i]? = none := hend.elim (fun q => .inl (by simp; omega)) fun q => .inr (by simp; omega)
    unfold pyNext
    refine wpAny_bind (wpAny_attempt (wpAny_callSpecial?_slot (name := Str.ofString "__next__") hT F.slot_zip_next (wpAny_call_entry F.slot_zip_next hT F.entry_zip_next
      (next_stop (src_list (xs := its.toArray) D.l1i1) (src_tuple (xs := its2.toArray) D.l2i2) D (I.ok.hd hc) hz hTI hTO ⟨h1, p.isList⟩ ⟨h2, p2⟩ he fun h' e hk ⟨o, ho, hce⟩ => ?_) (F.args_zip_next_1 _))))
    refine wpAny_bind (wpAny_isInstance (T := "StopIteration") (b := true) ⟨o, ho, hce⟩ isSubtype_stop (wpAny_pure ?_))
    exact ⟨rfl, I.turnedL (t' := s.toks) (ch := [z, TI, TO, i1, i2]) (fun c o hb q => hk c o (fun q' => hb (by simp [q'])) (fun q' => hb (by simp [q'])) (fun q' => hb (by simp [q'])) (fun q' => hb (by simp [q'])) q) hf⟩
  self := fun A i s Q E st h => wpAny_pyIter_zip st.1 h
def iZipM (K : PySem.W.Frag) (ta : TA) : TI := fun σ H R => ta σ H fun vs H1 => ∃ a b xs ys, vs = [.ref a, .ref b] ∧ SqL K H1 a xs ∧ SqT K H1 b ys ∧ R (Itlt K a b) H1
theorem pi_zipM {X : Cx} {e e2 : Expr} {ta : TA} {p pos tpos : Pos} {elts : List Expr} {kk : Nat} (hg : Gl X "zip") (hm : X.mg "zip" = none) (ha : PA X [e, e2] ta) (hs : starEach [e, e2] X.env = (false, eval e X.env) :: starEach [e2] X.env := by rfl)
    (hpl : (backTo pos (starEach [e2] X.env)).any (·.1) = false := by rfl) : PI X (.Tuple elts kk tpos) (.Call (.Name "zip" p) [e, e2] [] pos) (iZipM X.K ta) := by
  refine ⟨fun pins s σ H R I h => Call_ (ld_blt I hg hm PyProof.Rows.boot_zip (PyProof.Rows.callWith_type1 (thn (ha.run pos pins s σ H _ I h) fun us s1 ⟨vs, H1, I1, r1, a, b, xs, ys, ex, hqx, hqy, q⟩ => ?_) hs hpl))⟩
  subst ex
  cases r1 with
  | cons ra rs =>
    cases rs with
    | cons rb rs =>
      cases rs
      cases ra
      cases rb
      obtain ⟨its, rv, p1, _⟩ := I1.list hqx
      obtain ⟨its2, rv2, p2, _⟩ := I1.tuple hqy
      have ⟨o2, ho2, _⟩ := p2
      refine call_lt p1.isList (show s1.heap.IsTuple b its2.toArray from p2) fun h' hz hTI hTO h1 h2 hk => wpAny_pyIter_zip hz ?_
      have I2 : Inv X pins σ H1 { s1 with heap := h' } := I1.kept (t' := s1.toks) hk
      refine ⟨s1.heap.objs.size + 4, [s1.heap.objs.size + 4, s1.heap.objs.size + 2, s1.heap.objs.size + 3, s1.heap.objs.size, s1.heap.objs.size + 1], _, _, H1, rfl, I2, turn_lt (PySem.W.ktu_apart s1.heap.objs.size a b p1.lt (Heap.lt_size ho2)), ⟨hz, hTI, ⟨_, _, hTO⟩, h1, h2⟩, fun c hcm => ?_, q⟩
      have hle : s1.heap.objs.size ≤ c := by
        rcases five hcm with z | z | z | z | z <;> rw [z] <;> first | exact Nat.le_add_right _ _ | exact Nat.le_refl _
      exact I1.fpOk hle (I1.hok.fresh hle)
end Fx.ZM
namespace Fx
open PySem PySem.Spec PyProof.Rows L2 Evl Lk
def wiZM (wa : WA) : WI := fun env Q => wa env fun as e => ∃ ds es, as = [.v (.f (.lst ds)), .v (.f (.tup es))] ∧ Q (List.zipWith (fun d e => .tup [d, e]) ds es) e
theorem itd_zipM {K : PySem.W.Frag} {a b : Addr} {ds es : List D} : ItD K (ZM.Itlt K a b) (fun T H => Fz K (hid T H) (.ref a) (.lst ds) ∧ Fz K (hid T H) (.ref b) (.tup es)) (List.zipWith (fun d e => .tup [d, e]) ds es) where
  go := fun i T H t h hi => by
    have h1 : i < ds.length := by simp at hi; omega
    have h2 : i < es.length := by simp at hi; omega
    obtain ⟨ha, hb⟩ := h
    cases ha with
    | lst l fl =>
      cases hb with
      | tup l2 fl2 =>
        rename_i vs ws
        have hv : i < vs.length := by rw [fl.length]; exact h1
        have hw : i < ws.length := by rw [fl2.length]; exact h2
        refine ⟨⟨vs, ws, _, _, ex_l hid_ex l, ex_t hid_ex l2, List.getElem?_eq_getElem hv, List.getElem?_eq_getElem hw⟩, fun v H' ⟨T1, x, x2, ev, n, e, y, y2⟩ => ?_⟩
        subst e ev
        have ex : Ex H (upd H T1 (.tup [x, x2])) := Ex.new n
        refine ⟨.tup [ds[i], es[i]], by rw [List.getElem?_zipWith, List.getElem?_eq_getElem h1, List.getElem?_eq_getElem h2] <;> rfl, ex, .tup (SqT.of (hid_of upd_same (nT t n))) (.cons ?_ (.cons ?_ .nil))⟩
        · exact (fl.get (y vs (ex_l hid_ex l)) (List.getElem?_eq_getElem h1)).ex (hid_mono ex)
        · exact (fl2.get (y2 ws (ex_t hid_ex l2)) (List.getElem?_eq_getElem h2)).ex (hid_mono ex)
  stop := fun i T H h hi => by
    obtain ⟨ha, hb⟩ := h
    cases ha with
    | lst l fl =>
      cases hb with
      | tup l2 fl2 =>
        refine ⟨_, _, ex_l hid_ex l, ex_t hid_ex l2, ?_⟩
        have := fl.length
        have := fl2.length
        simp at hi
        omega
  keep := fun T H T' H' h e => ⟨h.1.ex e, h.2.ex e⟩
section
variable {X : Cx} {G : Gx} {wa : WA} {pos : Pos}
theorem gi_zipM {e1 e2 : Expr} {elts : List Expr} {kk : Nat} {p tpos : Pos} (hg : Gl X "zip") (hm : X.mg "zip" = none) (ha : GA X G [e1, e2] wa) (hK : X.K = G.K := by rfl) (hs : starEach [e1, e2] X.env = (false, eval e1 X.env) :: starEach [e2] X.env := by rfl)
    (hpl : (backTo pos (starEach [e2] X.env)).any (·.1) = false := by rfl) : GI X G (.Tuple elts kk tpos) (.Call (.Name "zip" p) [e1, e2] [] pos) (wiZM wa) := by
  refine ⟨pi_imp (ZM.pi_zipM hg hm ha.pa hs hpl) fun σ H R ⟨T, env, F, r, q⟩ => ⟨T, env, F, r, ha.mono _ _ _ (fun as e ⟨ds, es, hd, q⟩ vs T' H' F' Fa a z => ?_) q⟩, fun env Q Q' i q => ha.mono _ _ _ (fun s e ⟨j, k, hj, q⟩ => ⟨j, k, hj, i _ _ q⟩) q⟩
  rw [hK]
  subst hd
  obtain ⟨v, v2, rfl, fz, fz2⟩ := args2 z
  cases id fz with
  | lst l fl =>
    cases id fz2 with
    | tup l2 fl2 => exact ⟨_, _, _, _, rfl, ex_l hid_ex l, ex_t hid_ex l2, q _ T' H' F' _ a itd_zipM ⟨fz, fz2⟩⟩
end
section
variable {wa : WA} {env : Env} {QI : List D → Env → Prop}
theorem x_iZM (h : wa env fun as e => ∃ ds es, as = [.v (.f (.lst ds)), .v (.f (.tup es))] ∧ QI (List.zipWith (fun a b => .tup [a, b]) ds es) e) : wiZM wa env QI := h
end
end Fx

namespace K80
open PySem PySem.Spec PyProof.Rows L2 Lk Evl Fx


def topS (i : Nat) : Stmt := PySem.Challenge.pw_leavechain_k80_trees_of_anything.main.body.getD i (.Pass ⟨0, 0, 0, 0⟩)
abbrev s_next_actor : Stmt := topS 4
theorem sc_next_actor : FnScope ["trust", "settled", "needed", "wish", "giver", "actor"] ["trust", "settled"] (defScope s_next_actor) := ⟨rfl, rfl, rfl, by decide +kernel, rfl, by decide +kernel, by decide +kernel⟩
abbrev s_givers_to : Stmt := topS 5
theorem sc_givers_to : FnScope ["trust", "actor", "tie"] ["trust", "actor"] (defScope s_givers_to) := ⟨rfl, rfl, rfl, by decide +kernel, rfl, by decide +kernel, by decide +kernel⟩
abbrev s_is_full : Stmt := topS 6
theorem sc_is_full : FnScope ["trust", "most", "settled"] ["trust", "most", "settled"] (defScope s_is_full) := ⟨rfl, rfl, rfl, by decide +kernel, rfl, by decide +kernel, by decide +kernel⟩
abbrev s_is_in_ring : Stmt := topS 7
theorem sc_is_in_ring : FnScope ["settled", "actor"] ["settled", "actor"] (defScope s_is_in_ring) := ⟨rfl, rfl, rfl, by decide +kernel, rfl, by decide +kernel, by decide +kernel⟩
abbrev s_lacks_time : Stmt := topS 8
theorem sc_lacks_time : FnScope ["trust", "settled", "actor", "borne", "wish", "ties", "tie"] ["trust", "settled", "actor"] (defScope s_lacks_time) := ⟨rfl, rfl, rfl, by decide +kernel, rfl, by decide +kernel, by decide +kernel⟩
abbrev s__bears : Stmt := topS 9
theorem sc__bears : FnScope ["tie", "wishes", "wish"] ["tie", "wishes"] (defScope s__bears) := ⟨rfl, rfl, rfl, by decide +kernel, rfl, by decide +kernel, by decide +kernel⟩
abbrev s__above : Stmt := topS 10
theorem sc__above : FnScope ["settled", "actor", "found", "giver"] ["settled", "actor"] (defScope s__above) := ⟨rfl, rfl, rfl, by decide +kernel, rfl, by decide +kernel, by decide +kernel⟩
abbrev s_tree_holds : Stmt := topS 12
theorem sc_tree_holds : FnScope ["trust", "most", "tree"] ["trust", "most", "tree"] (defScope s_tree_holds) := ⟨rfl, rfl, rfl, by decide +kernel, rfl, by decide +kernel, by decide +kernel⟩
abbrev s__holds : Stmt := topS 13
theorem sc__holds : FnScope ["trust", "most", "settled", "tree", "part"] ["trust", "most", "settled", "tree"] (defScope s__holds) := ⟨rfl, rfl, rfl, by decide +kernel, rfl, by decide +kernel, by decide +kernel⟩
abbrev s__bars : Stmt := topS 14
theorem sc__bars : FnScope ["trust", "most", "settled", "bar"] ["trust", "most", "settled", "bar"] (defScope s__bars) := ⟨rfl, rfl, rfl, by decide +kernel, rfl, by decide +kernel, by decide +kernel⟩
abbrev s__goes_on : Stmt := topS 15
theorem sc__goes_on : FnScope ["trust", "most", "settled", "tree", "word", "actor", "trees", "givers", "giver", "told"] ["trust", "most", "settled", "tree"] (defScope s__goes_on) := ⟨rfl, rfl, rfl, by decide +kernel, rfl, by decide +kernel, by decide +kernel⟩
abbrev s__law_cell_at : Stmt := topS 17
theorem sc__law_cell_at : FnScope ["script", "k"] ["script", "k"] (defScope s__law_cell_at) := ⟨rfl, rfl, rfl, by decide +kernel, rfl, by decide +kernel, by decide +kernel⟩
abbrev s__law_pool : Stmt := topS 18
theorem sc__law_pool : FnScope ["cell", "place"] ["cell", "place"] (defScope s__law_pool) := ⟨rfl, rfl, rfl, by decide +kernel, rfl, by decide +kernel, by decide +kernel⟩
abbrev s__law_draw : Stmt := topS 19
theorem sc__law_draw : FnScope ["pool", "many", "stir", "found"] ["pool", "many"] (defScope s__law_draw) := ⟨rfl, rfl, rfl, by decide +kernel, rfl, by decide +kernel, by decide +kernel⟩
abbrev s__law_names : Stmt := topS 20
theorem sc__law_names : FnScope ["pool", "many", "letters", "names", "k", "word", "j", "one", "letter"] ["pool", "many"] (defScope s__law_names) := ⟨rfl, rfl, rfl, by decide +kernel, rfl, by decide +kernel, by decide +kernel⟩
abbrev s__law_span : Stmt := topS 21
theorem sc__law_span : FnScope ["pool", "way", "since"] ["pool", "way"] (defScope s__law_span) := ⟨rfl, rfl, rfl, by decide +kernel, rfl, by decide +kernel, by decide +kernel⟩
abbrev s__law_trust : Stmt := topS 22
theorem sc__law_trust : FnScope ["pool", "most", "names", "kind", "ties", "k", "one", "other", "left", "wishes", "actor", "since", "deeds"] ["pool", "most"] (defScope s__law_trust) := ⟨rfl, rfl, rfl, by decide +kernel, rfl, by decide +kernel, by decide +kernel⟩
abbrev s__law_others : Stmt := topS 23
theorem sc__law_others : FnScope ["trust", "names", "wish", "tie", "name"] ["trust"] (defScope s__law_others) := ⟨rfl, rfl, rfl, by decide +kernel, rfl, by decide +kernel, by decide +kernel⟩
abbrev s__law_lies : Stmt := topS 24
theorem sc__law_lies : FnScope ["trust", "giver", "holder", "since", "until", "some", "tie"] ["trust", "giver", "holder", "since", "until"] (defScope s__law_lies) := ⟨rfl, rfl, rfl, by decide +kernel, rfl, by decide +kernel, by decide +kernel⟩
abbrev s__law_next : Stmt := topS 25
theorem sc__law_next : FnScope ["trust", "case", "settled", "pair", "name", "wish"] ["trust", "case"] (defScope s__law_next) := ⟨rfl, rfl, rfl, by decide +kernel, rfl, by decide +kernel, by decide +kernel⟩
abbrev s__law_comes : Stmt := topS 26
theorem sc__law_comes : FnScope ["case", "first", "goal", "givers", "here", "turn"] ["case", "first", "goal"] (defScope s__law_comes) := ⟨rfl, rfl, rfl, by decide +kernel, rfl, by decide +kernel, by decide +kernel⟩
abbrev s__law_late : Stmt := topS 27
theorem sc__law_late : FnScope ["trust", "case", "actor", "settled", "pair", "some", "wish", "first"] ["trust", "case", "actor"] (defScope s__law_late) := ⟨rfl, rfl, rfl, by decide +kernel, rfl, by decide +kernel, by decide +kernel⟩
abbrev s__law_tied : Stmt := topS 28
theorem sc__law_tied : FnScope ["trust", "actor", "tie"] ["trust", "actor"] (defScope s__law_tied) := ⟨rfl, rfl, rfl, by decide +kernel, rfl, by decide +kernel, by decide +kernel⟩
abbrev s__law_grown : Stmt := topS 30
theorem sc__law_grown : FnScope ["pool", "trust", "most", "case", "goal", "bars", "actor", "giver", "rows"] ["pool", "trust", "most", "case"] (defScope s__law_grown) := ⟨rfl, rfl, rfl, by decide +kernel, rfl, by decide +kernel, by decide +kernel⟩
abbrev s__law_odd_ones : Stmt := topS 31
theorem sc__law_odd_ones : FnScope ["tree", "found", "rows", "row", "odd"] ["tree"] (defScope s__law_odd_ones) := ⟨rfl, rfl, rfl, by decide +kernel, rfl, by decide +kernel, by decide +kernel⟩
abbrev s__law_odd : Stmt := topS 32
theorem sc__law_odd : FnScope ["pool", "tree", "at", "giver", "rest", "found", "odd"] ["pool", "tree"] (defScope s__law_odd) := ⟨rfl, rfl, rfl, by decide +kernel, rfl, by decide +kernel, by decide +kernel⟩
abbrev s_law : Stmt := topS 33
theorem sc_law : FnScope ["script", "k", "pool", "owner", "ties", "wishes", "names", "alone", "word", "trust", "tree", "most", "turn", "thing"] ["script"] (defScope s_law) := ⟨rfl, rfl, rfl, by decide +kernel, rfl, by decide +kernel, by decide +kernel⟩
local macro_rules | `(tactic| walk_at "sz") => `(tactic| first
  | exact Nat.le_of_ble_eq_true rfl
  | assumption
  | exact small_sz (Nat.le_of_ble_eq_true rfl)
  | (simp only [List.length_cons, List.length_nil, List.length_map, List.length_append]; first | omega | exact small_sz (by omega)))
local macro_rules | `(tactic| walk_at "x1") => `(tactic| first
  | with_reducible refine x_seq ?_
  | (with_reducible show wVar _ _ _); first | refine x_varF rfl ?_ | refine x_varO rfl ?_ | refine x_varV rfl ?_
  | with_reducible refine x_c ?_
  | with_reducible refine x_exf ?_
  | with_reducible refine x_excd ?_
  | (with_reducible show ∃ d1, Sl.cd (Sl.vw _) = some d1 ∧ _); refine x_excV rfl ?_
  | (with_reducible show ∃ d1, Sl.cd (Sl.own _) = some d1 ∧ _); refine x_excO rfl ?_
  | with_reducible refine x_binP ?_
  | with_reducible refine x_bin ?_
  | with_reducible refine x_adC ?_
  | with_reducible refine x_adN ?_
  | with_reducible refine x_lst ?_
  | with_reducible refine x_tup ?_
  | with_reducible refine x_lstO ?_
  | (with_reducible refine x_and (p := _ ≤ sizeLine) ?h ?_); (case h => walk_at "sz")
  | with_reducible refine x_callF ?_
  | with_reducible refine x_callL ?_
  | with_reducible refine x_listO ?_
  | with_reducible refine x_dstar ?_
  | with_reducible refine x_getN ?_
  | with_reducible refine x_ss ?_
  | with_reducible refine x_mulO ?_
  | with_reducible refine x_iZM ?_
  | (with_reducible show wCallU _ _ _ _ _); refine x_callU rfl ?_
  | with_reducible refine x_callV ?_
  | with_reducible refine x_join ?_
  | with_reducible refine x_waD ?_
  | with_reducible refine x_lc ?_
  | with_reducible refine x_lc2 ?_
  | with_reducible refine x_lenSets ?_
  | (with_reducible show wApp _ _ _ _); refine x_app rfl ?_
  | (with_reducible show wBinV _ _ _ _ _); refine x_binV rfl ?_
  | (with_reducible show wPopD _ _ _ _); refine x_popD rfl ?_
  | (with_reducible show wCatV _ _ _ _); refine x_catV rfl ?_
  | with_reducible refine x_slN2 ?_
  | with_reducible refine x_sortedSets ?_
  | with_reducible refine x_tplL ?_
  | with_reducible refine x_tplT ?_
  | with_reducible refine x_isB ?_
  | with_reducible refine x_r1 ?_
  | with_reducible refine x_r2 ?_
  | (with_reducible refine x_r1e ?h0 ?h1 ?_); (case h0 => omega); (case h1 => omega)
  | with_reducible refine x_iL ?_
  | with_reducible refine x_iT ?_
  | with_reducible refine x_iS ?_
  | with_reducible refine x_iE ?_
  | with_reducible refine x_iEe ?_
  | with_reducible refine x_yes ?_
  | with_reducible refine x_for ?_
  | (with_reducible show wLot _ [D.int _] _); (refine' x_lot (by assumption) ?h1 ?h2 ?h3 ?_); (case h1 => omega); (case h2 => first | decide | omega); (case h3 => first | decide | omega)
  | (with_reducible show ∃ o, _ = some (some (Sl.own o)) ∧ _); refine x_exO rfl ?_
  | with_reducible refine x_exo ?_
  | with_reducible refine x_ret ?_
  | with_reducible refine x_set ?_
  | with_reducible refine x_fin ?_
  | with_reducible refine x_fino ?_
  | (with_reducible refine x_and (p := _ < List.length _) ?h ?_); (case h => exact Nat.le_of_ble_eq_true rfl); (try dsimp only [List.set_cons_succ, List.set_cons_zero])
  | with_reducible refine x_next ?_
  | with_reducible refine x_retN ?_
  | with_reducible refine x_drop ?_
  | with_reducible refine x_asg ?_
  | (with_reducible refine x_gtp ?h ?_); (case h => rfl)
  | with_reducible refine x_gcons ?_
  | with_reducible refine x_gnil ?_
  | (with_reducible refine x_gn ?h ?_); (case h => exact Nat.le_of_ble_eq_true rfl); (try dsimp only [List.set_cons_succ, List.set_cons_zero])
  | with_reducible refine x_ifS ?_
  | with_reducible refine x_if ?_
  | with_reducible refine x_itT ?_
  | with_reducible refine x_itF ?_
  | with_reducible refine x_iteN ?_
  | with_reducible refine x_tru ?_
  | with_reducible refine x_tB ?_
  | with_reducible refine x_dtB ?_
  | with_reducible refine x_dtN ?_
  | with_reducible refine x_exb ?_
  | with_reducible refine x_exdb ?_
  | with_reducible refine x_tand ?_
  | with_reducible refine x_tor ?_
  | with_reducible refine x_tnot ?_
  | with_reducible refine x_and2 ?_
  | with_reducible refine x_or2 ?_
  | with_reducible refine x_not2 ?_
  | with_reducible refine x_chain ?_
  | with_reducible refine x_sub ?_
  | with_reducible refine x_addI ?_
  | (with_reducible refine x_addS ?h ?_); (case h => walk_at "sz")
  | (with_reducible refine x_addL ?h ?_); (case h => walk_at "sz")
  | (with_reducible refine x_addT ?h ?_); (case h => walk_at "sz")
  | with_reducible refine x_lt ?_
  | with_reducible refine x_le ?_
  | with_reducible refine x_gt ?_
  | with_reducible refine x_ge ?_
  | with_reducible refine x_ltS ?_
  | with_reducible refine x_eqI ?_
  | with_reducible refine x_neI ?_
  | with_reducible refine x_allSg ?_
  | with_reducible refine x_m0 ?_
  | with_reducible refine x_lstT ?_
  | with_reducible refine x_lstL ?_
  | with_reducible refine x_strB ?_
  | with_reducible refine x_strN ?_
  | with_reducible refine x_strS ?_
  | with_reducible refine x_isT ?_
  | with_reducible refine x_isI ?_
  | with_reducible refine x_neg ?_
  | with_reducible refine x_un ?_
  | (with_reducible refine x_pow ?h ?_); (case h => exact ⟨by decide, by decide +kernel⟩)
  | (with_reducible refine x_mod ?h ?_); (case h => first | decide | omega)
  | (with_reducible refine x_mul ?h ?_); (case h => exact mul_ok (by first | decide | omega) (by first | decide | omega))
  | (with_reducible refine x_div ?h ?_); (case h => exact div_ok (by first | decide | omega) (by first | decide | omega))
  | with_reducible refine x_ipA ?_
  | (with_reducible show wAugL _ _ _ _ _ _); refine x_augL rfl ?_
  | (with_reducible show wAug _ _ _ _ _); refine x_aug rfl ?_
  | (with_reducible show ∃ k' ds d, Sl.f (D.int _) = Sl.f (D.int k') ∧ _); refine x_augL1 rfl (by decide) rfl ?_
  | (with_reducible show ∃ k' j ds, Sl.f (D.int _) = Sl.f (D.int k') ∧ _ = some (some (Sl.own (O.lst ds))) ∧ ixN _ k' = some j ∧ _); refine x_setL1 rfl rfl ?_; (try dsimp only [List.set_cons_succ, List.set_cons_zero])
  | (with_reducible show ∃ ds j, _ = some (some (Sl.own (O.lst ds))) ∧ ixN _ _ = some j ∧ _); refine x_augL2 rfl rfl ?_; (try dsimp only [List.set_cons_succ, List.set_cons_zero])
  | (with_reducible show gSetL _ _ _ _ _); refine x_setL rfl ?_
  | (with_reducible show dIx (D.lst _) (D.int _) _); refine x_ixL rfl ?_
  | (with_reducible show dIx (D.tup _) (D.int _) _); refine x_ixT rfl ?_
  | with_reducible refine x_cb ?_
  | (with_reducible show wCB1 _ _ _ _); refine x_cb1 rfl rfl ?_
  | with_reducible refine x_fm ?_
  | with_reducible refine x_exl ?_
  | with_reducible refine x_ext ?_
  | with_reducible refine x_exs ?_
  | with_reducible refine x_exi ?_
  | with_reducible refine x_sl ?_
  | with_reducible refine x_slN ?_
  | with_reducible refine x_slS ?_
  | with_reducible refine x_frz ?_
  | with_reducible refine x_frL ?_
  | with_reducible refine x_revT ?_
  | with_reducible refine x_revL ?_
  | with_reducible refine x_splitO ?_
  | (with_reducible show wSlO _ _ _ _ _); refine x_slO rfl ?_
  | (with_reducible show ∃ ds2, _ = some (some (Sl.own (O.lst ds2))) ∧ _); refine x_exOl rfl ?_
  | with_reducible refine x_dictO ?_
  | with_reducible refine x_psC ?_
  | with_reducible refine x_psN ?_
  | with_reducible refine x_get ?_
  | (with_reducible show gSetSl _ _ _ _ _ _); refine x_setSl rfl ?_
  | with_reducible refine x_split ?_
  | with_reducible refine x_isN1 ?_
  | with_reducible refine x_isN0 rfl ?_
  | with_reducible refine x_iZ ?_
  | with_reducible refine x_zT ?_
  | with_reducible refine x_zL ?_
  | with_reducible refine x_stp ?_
  | with_reducible refine x_js ?_
  | with_reducible refine x_jsC ?_
  | with_reducible refine x_jsN ?_
  | with_reducible refine x_fmt ?_
  | with_reducible refine x_callFX ?_
  | (with_reducible refine x_glp ?h ?_); (case h => rfl)
  | with_reducible refine x_raiseR ?_
  | with_reducible refine x_row ?_
  | with_reducible refine x_lenL ?_
  | with_reducible refine x_lenT ?_
  | with_reducible refine x_lenD ?_
  | (with_reducible refine x_lenS ?h ?_); (case h => walk_at "sz")
  | with_reducible refine x_max ?_
  | with_reducible refine x_min ?_
  | with_reducible refine x_intI ?_
  | with_reducible refine x_intB ?_
  | (with_reducible refine x_isInt ?h ?_); (case h => first | assumption | exact part_ty (by assumption) | (intro _ hh; cases hh; done))
  | (with_reducible refine x_isBl ?h ?_); (case h => first | assumption | exact part_ty (by assumption) | (intro _ hh; cases hh; done))
  | (with_reducible refine x_isStr ?h ?_); (case h => first | assumption | exact part_ty (by assumption) | (intro _ hh; cases hh; done))
  | (with_reducible refine x_isTup ?h ?_); (case h => first | assumption | exact part_ty (by assumption) | (intro _ hh; cases hh; done))
  | (with_reducible refine x_isLst ?h ?_); (case h => first | assumption | exact part_ty (by assumption) | (intro _ hh; cases hh; done))
  | (with_reducible refine x_isDic ?h ?_); (case h => first | assumption | exact part_ty (by assumption) | (intro _ hh; cases hh; done))
  | (with_reducible refine x_itTe ?e ?_); (case e => rfl)
  | (with_reducible refine x_itFe ?e ?_); (case e => rfl)
  | with_reducible refine x_dnewO ?_
  | with_reducible refine x_dput ?_
  | with_reducible refine x_dix ?_
  | with_reducible refine x_sortedD ?_
  | with_reducible refine x_star ?_
  | with_reducible refine x_starT ?_
  | with_reducible refine x_frzD ?_
  | with_reducible refine x_sw ?_
  | with_reducible refine x_cnt ?_
  | with_reducible refine x_waC ?_
  | with_reducible refine x_waN ?_
  | with_reducible refine x_lenDD ?_
  | with_reducible refine x_allX ?_
  | (with_reducible show wFz _ _ _ _); refine x_fz rfl ?_
  | (with_reducible show wFzS _ _ _ _); refine x_fzS rfl ?_
  | (with_reducible show wFzO _ _ _ _); refine x_fzO rfl ?_
  | (with_reducible show wiK _ _ _); refine x_iK rfl ?_
  | (with_reducible show wiIt _ _ _); refine x_iIt rfl ?_
  | with_reducible refine x_iE1 ?_
  | with_reducible refine x_forR ?_
  | (with_reducible show wDIxV _ _ _ _); refine x_dixV rfl (cd_dicO _) ?_
  | (with_reducible show wDPop _ _ _ _); refine x_dpop rfl ?_
  | with_reducible refine x_pickO ?_
  | (with_reducible show wExt _ _ _ _); refine x_extO rfl ?_
  | with_reducible refine x_sortedR ?_
  | with_reducible refine x_sortedL ?_
  | with_reducible refine x_ixSt ?_
  | (with_reducible show wiVal _ _ _); refine x_iVal rfl ?_
  | with_reducible refine x_dictP ?_
  | with_reducible refine x_dictZip ?_
  | with_reducible refine x_revS ?_
  | with_reducible refine x_par ?_
  | (with_reducible show wIsiV _ _ _ _ _); refine x_isiV rfl ?_
  | ((with_reducible show _ ∧ _); refine And.intro (Nat.le_of_ble_eq_true rfl) ?_))
local macro_rules | `(tactic| walk_at "x") => `(tactic| repeat (walk_at "x1"))

structure Txt (K : PySem.W.Frag) (mg : Str → Option Value) : Prop where
  z_all : mg "all" = none
  z_any : mg "any" = none
  z_dict : mg "dict" = none
  z_int : mg "int" = none
  z_isinstance : mg "isinstance" = none
  z_len : mg "len" = none
  z_list : mg "list" = none
  z_max : mg "max" = none
  z_min : mg "min" = none
  z_range : mg "range" = none
  z_set : mg "set" = none
  z_sorted : mg "sorted" = none
  z_str : mg "str" = none
  z_tuple : mg "tuple" = none
  z_zip : mg "zip" = none
  g_OWNER : ∃ v u, mg "OWNER" = some u ∧ RelV v u ∧ ∀ H, Fz K H v (.int 0)
  g_TIES : ∃ v u, mg "TIES" = some u ∧ RelV v u ∧ ∀ H, Fz K H v (.int 1)
  g_WISHES : ∃ v u, mg "WISHES" = some u ∧ RelV v u ∧ ∀ H, Fz K H v (.int 2)
section
variable {P : Program} {w : World} {K : PySem.W.Frag} {mg : Str → Option Value} {base : Heap} {tabs : List Addr}
/-! ### what the words are asked -/
def betwB (d : D) (lo hi : Int) : Bool := match d with
  | .int i => decide (lo ≤ i) && decide (i ≤ hi)
  | _ => false
def ltB (a b : D) : Bool := match a, b with
  | .int i, .int j => decide (i < j)
  | _, _ => false
def spanB (a b : D) : Bool := betwB a 0 1000000 && (betwB b 0 1000000 && ltB a b)
/-! names -/
def nameB : D → Bool
  | .str a => decide ((1 : Int) ≤ (a.length : Int)) && (decide ((a.length : Int) ≤ 8) && Fx.nmB "a" "z" a)
  | _ => false
/-! deeds -/
def allDeeds : List D := [.tup [.str "look"], .tup [.str "set"], .tup [.str "look", .str "set"]]
def deedsB : D → Bool
  | .tup ds => ds.all Fx.isStr && memB allDeeds (.tup ds)
  | _ => false
/-! leaves -/
def szB : D → Bool
  | .str a => decide (a.length ≤ sizeLine)
  | _ => true
def underB (v n : D) : Bool := Fx.isNon v || (match n with | .int i => betwB v 0 (i - 1) | _ => false)
def gezB : D → Bool
  | .int i => decide (0 ≤ i)
  | _ => false
def leaveB : D → Bool
  | .tup [n, room, deeds, g, h, s, u, p, v] => gezB n && (nameB room && (deedsB deeds && (nameB g && (nameB h && (!eqB g h && (spanB s u && (betwB p 0 6 && underB v n)))))))
  | _ => false
/-! ### ties and wishes -/
/-! ### trusts -/
def nm0 : D → Str
  | .tup (.str a :: _) => a
  | _ => Str.empty
theorem rng_all (p : Nat → Bool) : ∀ l : List Nat, (List.range l.length).all (GxR.trF p l) = l.all p
  | [] => rfl
  | c :: l => by
    rw [List.length_cons, List.range_succ_eq_map, List.all_cons, List.all_map, List.all_cons, ← rng_all p l]
    rfl
theorem okPy_strs {xs : List Str} (h : ∀ x ∈ xs, PyData.strOk x = true) : okPy (.lst (xs.map D.str)) = true := by
  have key : PyData.canLayAll0 (D.pyL (xs.map D.str)) = true ∧ PyData.depthAll (D.pyL (xs.map D.str)) = 0 := by
    induction xs with
    | nil => exact ⟨by show PyData.canLayAll0 [] = true; unfold PyData.canLayAll0; rfl, by show PyData.depthAll [] = 0; unfold PyData.depthAll; rfl⟩
    | cons c l ih =>
      obtain ⟨i1, i2⟩ := ih fun c hc => h c (List.mem_cons_of_mem _ hc)
      have hc := h c (List.mem_cons_self ..)
      refine ⟨?_, ?_⟩
      · show PyData.canLayAll0 (.str c :: D.pyL (l.map D.str)) = true
        unfold PyData.canLayAll0
        rw [i1, Bool.and_true]
        unfold PyData.canLay0
        exact hc
      · show PyData.depthAll (.str c :: D.pyL (l.map D.str)) = 0
        unfold PyData.depthAll
        rw [i2]
        unfold PyData.depth
        rfl
  unfold okPy SeqAt.shaped
  rw [Bool.and_eq_true]
  refine ⟨?_, ?_⟩
  · show PyData.canLay0 (.list (D.pyL (xs.map D.str))) = true
    unfold PyData.canLay0
    exact key.1
  · show decide (PyData.depth (.list (D.pyL (xs.map D.str))) ≤ 64) = true
    unfold PyData.depth
    rw [key.2]
    rfl
theorem name_cp {a : Str} (h : nameB (.str a) = true) : PyData.strOk a = true := by
  have h : (decide ((1 : Int) ≤ (a.length : Int)) && (decide ((a.length : Int) ≤ 8) && Fx.nmB "a" "z" a)) = true := h
  rw [Bool.and_eq_true, Bool.and_eq_true] at h
  have h := h.2.2
  unfold Fx.nmB at h
  rw [show a.cps.size = a.cps.toList.length by simp, rng_all, List.all_eq_true] at h
  refine strOk_list fun c hc => ?_
  have b := h c hc
  unfold btw at b
  rw [Bool.and_eq_true, show (Str.ofString "z").cps.toList = [122] by decide +kernel] at b
  have b := b.2
  by_cases hz : 122 < c
  · have l : [122] < [c] := List.Lex.rel hz
    rw [decide_eq_true l] at b
    cases b
  · omega
theorem mem_strs {x : Str} : ∀ {xs : List Str}, memB (xs.map D.str) (.str x) = xs.contains x
  | [] => rfl
  | y :: ys => by
    show (PyData.eqv (.str y) (.str x) || memB (ys.map D.str) (.str x)) = _
    rw [mem_strs (xs := ys), List.contains_cons]
    congr 1
    show PyData.eqv (.str y) (.str x) = _
    unfold PyData.eqv
    first | exact BEq.comm | (by_cases h : y = x <;> simp [h, eq_comm])
theorem eq_strs {x y : Str} : eqB (.str x) (.str y) = (x == y) := by
  show PyData.eqv (.str x) (.str y) = _
  unfold PyData.eqv
  first | rfl | (by_cases h : x = y <;> simp [h])
end
end K80

namespace K80
open PySem PySem.Spec PyProof.Rows L2 Lk Evl Fx


local macro_rules | `(tactic| walk_at "sz") => `(tactic| first
  | exact Nat.le_of_ble_eq_true rfl
  | assumption
  | exact small_sz (Nat.le_of_ble_eq_true rfl)
  | (simp only [List.length_cons, List.length_nil, List.length_map, List.length_append]; first | omega | exact small_sz (by omega)))
local macro_rules | `(tactic| walk_at "x1") => `(tactic| first
  | with_reducible refine x_seq ?_
  | (with_reducible show wVar _ _ _); first | refine x_varF rfl ?_ | refine x_varO rfl ?_ | refine x_varV rfl ?_
  | with_reducible refine x_c ?_
  | with_reducible refine x_exf ?_
  | with_reducible refine x_excd ?_
  | (with_reducible show ∃ d1, Sl.cd (Sl.vw _) = some d1 ∧ _); refine x_excV rfl ?_
  | (with_reducible show ∃ d1, Sl.cd (Sl.own _) = some d1 ∧ _); refine x_excO rfl ?_
  | with_reducible refine x_binP ?_
  | with_reducible refine x_bin ?_
  | with_reducible refine x_adC ?_
  | with_reducible refine x_adN ?_
  | with_reducible refine x_lst ?_
  | with_reducible refine x_tup ?_
  | with_reducible refine x_lstO ?_
  | (with_reducible refine x_and (p := _ ≤ sizeLine) ?h ?_); (case h => walk_at "sz")
  | with_reducible refine x_callF ?_
  | with_reducible refine x_callL ?_
  | with_reducible refine x_listO ?_
  | with_reducible refine x_dstar ?_
  | with_reducible refine x_getN ?_
  | with_reducible refine x_ss ?_
  | with_reducible refine x_mulO ?_
  | with_reducible refine x_iZM ?_
  | (with_reducible show wCallU _ _ _ _ _); refine x_callU rfl ?_
  | with_reducible refine x_callV ?_
  | with_reducible refine x_join ?_
  | with_reducible refine x_waD ?_
  | with_reducible refine x_lc ?_
  | with_reducible refine x_lc2 ?_
  | with_reducible refine x_lenSets ?_
  | (with_reducible show wApp _ _ _ _); refine x_app rfl ?_
  | (with_reducible show wBinV _ _ _ _ _); refine x_binV rfl ?_
  | (with_reducible show wPopD _ _ _ _); refine x_popD rfl ?_
  | (with_reducible show wCatV _ _ _ _); refine x_catV rfl ?_
  | with_reducible refine x_slN2 ?_
  | with_reducible refine x_sortedSets ?_
  | with_reducible refine x_tplL ?_
  | with_reducible refine x_tplT ?_
  | with_reducible refine x_isB ?_
  | with_reducible refine x_r1 ?_
  | with_reducible refine x_r2 ?_
  | (with_reducible refine x_r1e ?h0 ?h1 ?_); (case h0 => omega); (case h1 => omega)
  | with_reducible refine x_iL ?_
  | with_reducible refine x_iT ?_
  | with_reducible refine x_iS ?_
  | with_reducible refine x_iE ?_
  | with_reducible refine x_iEe ?_
  | with_reducible refine x_yes ?_
  | with_reducible refine x_for ?_
  | (with_reducible show wLot _ [D.int _] _); (refine' x_lot (by assumption) ?h1 ?h2 ?h3 ?_); (case h1 => omega); (case h2 => first | decide | omega); (case h3 => first | decide | omega)
  | (with_reducible show ∃ o, _ = some (some (Sl.own o)) ∧ _); refine x_exO rfl ?_
  | with_reducible refine x_exo ?_
  | with_reducible refine x_ret ?_
  | with_reducible refine x_set ?_
  | with_reducible refine x_fin ?_
  | with_reducible refine x_fino ?_
  | (with_reducible refine x_and (p := _ < List.length _) ?h ?_); (case h => exact Nat.le_of_ble_eq_true rfl); (try dsimp only [List.set_cons_succ, List.set_cons_zero])
  | with_reducible refine x_next ?_
  | with_reducible refine x_retN ?_
  | with_reducible refine x_drop ?_
  | with_reducible refine x_asg ?_
  | (with_reducible refine x_gtp ?h ?_); (case h => rfl)
  | with_reducible refine x_gcons ?_
  | with_reducible refine x_gnil ?_
  | (with_reducible refine x_gn ?h ?_); (case h => exact Nat.le_of_ble_eq_true rfl); (try dsimp only [List.set_cons_succ, List.set_cons_zero])
  | with_reducible refine x_ifS ?_
  | with_reducible refine x_if ?_
  | with_reducible refine x_itT ?_
  | with_reducible refine x_itF ?_
  | with_reducible refine x_iteN ?_
  | with_reducible refine x_tru ?_
  | with_reducible refine x_tB ?_
  | with_reducible refine x_dtB ?_
  | with_reducible refine x_dtN ?_
  | with_reducible refine x_exb ?_
  | with_reducible refine x_exdb ?_
  | with_reducible refine x_tand ?_
  | with_reducible refine x_tor ?_
  | with_reducible refine x_tnot ?_
  | with_reducible refine x_and2 ?_
  | with_reducible refine x_or2 ?_
  | with_reducible refine x_not2 ?_
  | with_reducible refine x_chain ?_
  | with_reducible refine x_sub ?_
  | with_reducible refine x_addI ?_
  | (with_reducible refine x_addS ?h ?_); (case h => walk_at "sz")
  | (with_reducible refine x_addL ?h ?_); (case h => walk_at "sz")
  | (with_reducible refine x_addT ?h ?_); (case h => walk_at "sz")
  | with_reducible refine x_lt ?_
  | with_reducible refine x_le ?_
  | with_reducible refine x_gt ?_
  | with_reducible refine x_ge ?_
  | with_reducible refine x_ltS ?_
  | with_reducible refine x_eqI ?_
  | with_reducible refine x_neI ?_
  | with_reducible refine x_allSg ?_
  | with_reducible refine x_m0 ?_
  | with_reducible refine x_lstT ?_
  | with_reducible refine x_lstL ?_
  | with_reducible refine x_strB ?_
  | with_reducible refine x_strN ?_
  | with_reducible refine x_strS ?_
  | with_reducible refine x_isT ?_
  | with_reducible refine x_isI ?_
  | with_reducible refine x_neg ?_
  | with_reducible refine x_un ?_
  | (with_reducible refine x_pow ?h ?_); (case h => exact ⟨by decide, by decide +kernel⟩)
  | (with_reducible refine x_mod ?h ?_); (case h => first | decide | omega)
  | (with_reducible refine x_mul ?h ?_); (case h => exact mul_ok (by first | decide | omega) (by first | decide | omega))
  | (with_reducible refine x_div ?h ?_); (case h => exact div_ok (by first | decide | omega) (by first | decide | omega))
  | with_reducible refine x_ipA ?_
  | (with_reducible show wAugL _ _ _ _ _ _); refine x_augL rfl ?_
  | (with_reducible show wAug _ _ _ _ _); refine x_aug rfl ?_
  | (with_reducible show ∃ k' ds d, Sl.f (D.int _) = Sl.f (D.int k') ∧ _); refine x_augL1 rfl (by decide) rfl ?_
  | (with_reducible show ∃ k' j ds, Sl.f (D.int _) = Sl.f (D.int k') ∧ _ = some (some (Sl.own (O.lst ds))) ∧ ixN _ k' = some j ∧ _); refine x_setL1 rfl rfl ?_; (try dsimp only [List.set_cons_succ, List.set_cons_zero])
  | (with_reducible show ∃ ds j, _ = some (some (Sl.own (O.lst ds))) ∧ ixN _ _ = some j ∧ _); refine x_augL2 rfl rfl ?_; (try dsimp only [List.set_cons_succ, List.set_cons_zero])
  | (with_reducible show gSetL _ _ _ _ _); refine x_setL rfl ?_
  | (with_reducible show dIx (D.lst _) (D.int _) _); refine x_ixL rfl ?_
  | (with_reducible show dIx (D.tup _) (D.int _) _); refine x_ixT rfl ?_
  | with_reducible refine x_cb ?_
  | (with_reducible show wCB1 _ _ _ _); refine x_cb1 rfl rfl ?_
  | with_reducible refine x_fm ?_
  | with_reducible refine x_exl ?_
  | with_reducible refine x_ext ?_
  | with_reducible refine x_exs ?_
  | with_reducible refine x_exi ?_
  | with_reducible refine x_sl ?_
  | with_reducible refine x_slN ?_
  | with_reducible refine x_slS ?_
  | with_reducible refine x_frz ?_
  | with_reducible refine x_frL ?_
  | with_reducible refine x_revT ?_
  | with_reducible refine x_revL ?_
  | with_reducible refine x_splitO ?_
  | (with_reducible show wSlO _ _ _ _ _); refine x_slO rfl ?_
  | (with_reducible show ∃ ds2, _ = some (some (Sl.own (O.lst ds2))) ∧ _); refine x_exOl rfl ?_
  | with_reducible refine x_dictO ?_
  | with_reducible refine x_psC ?_
  | with_reducible refine x_psN ?_
  | with_reducible refine x_get ?_
  | (with_reducible show gSetSl _ _ _ _ _ _); refine x_setSl rfl ?_
  | with_reducible refine x_split ?_
  | with_reducible refine x_isN1 ?_
  | with_reducible refine x_isN0 rfl ?_
  | with_reducible refine x_iZ ?_
  | with_reducible refine x_zT ?_
  | with_reducible refine x_zL ?_
  | with_reducible refine x_stp ?_
  | with_reducible refine x_js ?_
  | with_reducible refine x_jsC ?_
  | with_reducible refine x_jsN ?_
  | with_reducible refine x_fmt ?_
  | with_reducible refine x_callFX ?_
  | (with_reducible refine x_glp ?h ?_); (case h => rfl)
  | with_reducible refine x_raiseR ?_
  | with_reducible refine x_row ?_
  | with_reducible refine x_lenL ?_
  | with_reducible refine x_lenT ?_
  | with_reducible refine x_lenD ?_
  | (with_reducible refine x_lenS ?h ?_); (case h => walk_at "sz")
  | with_reducible refine x_max ?_
  | with_reducible refine x_min ?_
  | with_reducible refine x_intI ?_
  | with_reducible refine x_intB ?_
  | (with_reducible refine x_isInt ?h ?_); (case h => first | assumption | exact part_ty (by assumption) | (intro _ hh; cases hh; done))
  | (with_reducible refine x_isBl ?h ?_); (case h => first | assumption | exact part_ty (by assumption) | (intro _ hh; cases hh; done))
  | (with_reducible refine x_isStr ?h ?_); (case h => first | assumption | exact part_ty (by assumption) | (intro _ hh; cases hh; done))
  | (with_reducible refine x_isTup ?h ?_); (case h => first | assumption | exact part_ty (by assumption) | (intro _ hh; cases hh; done))
  | (with_reducible refine x_isLst ?h ?_); (case h => first | assumption | exact part_ty (by assumption) | (intro _ hh; cases hh; done))
  | (with_reducible refine x_isDic ?h ?_); (case h => first | assumption | exact part_ty (by assumption) | (intro _ hh; cases hh; done))
  | (with_reducible refine x_itTe ?e ?_); (case e => rfl)
  | (with_reducible refine x_itFe ?e ?_); (case e => rfl)
  | with_reducible refine x_dnewO ?_
  | with_reducible refine x_dput ?_
  | with_reducible refine x_dix ?_
  | with_reducible refine x_sortedD ?_
  | with_reducible refine x_star ?_
  | with_reducible refine x_starT ?_
  | with_reducible refine x_frzD ?_
  | with_reducible refine x_sw ?_
  | with_reducible refine x_cnt ?_
  | with_reducible refine x_waC ?_
  | with_reducible refine x_waN ?_
  | with_reducible refine x_lenDD ?_
  | with_reducible refine x_allX ?_
  | (with_reducible show wFz _ _ _ _); refine x_fz rfl ?_
  | (with_reducible show wFzS _ _ _ _); refine x_fzS rfl ?_
  | (with_reducible show wFzO _ _ _ _); refine x_fzO rfl ?_
  | (with_reducible show wiK _ _ _); refine x_iK rfl ?_
  | (with_reducible show wiIt _ _ _); refine x_iIt rfl ?_
  | with_reducible refine x_iE1 ?_
  | with_reducible refine x_forR ?_
  | (with_reducible show wDIxV _ _ _ _); refine x_dixV rfl (cd_dicO _) ?_
  | (with_reducible show wDPop _ _ _ _); refine x_dpop rfl ?_
  | with_reducible refine x_pickO ?_
  | (with_reducible show wExt _ _ _ _); refine x_extO rfl ?_
  | with_reducible refine x_sortedR ?_
  | with_reducible refine x_sortedL ?_
  | with_reducible refine x_ixSt ?_
  | (with_reducible show wiVal _ _ _); refine x_iVal rfl ?_
  | with_reducible refine x_dictP ?_
  | with_reducible refine x_dictZip ?_
  | with_reducible refine x_revS ?_
  | with_reducible refine x_par ?_
  | (with_reducible show wIsiV _ _ _ _ _); refine x_isiV rfl ?_
  | ((with_reducible show _ ∧ _); refine And.intro (Nat.le_of_ble_eq_true rfl) ?_))
local macro_rules | `(tactic| walk_at "x") => `(tactic| repeat (walk_at "x1"))

section
variable {P : Program} {w : World} {K : PySem.W.Frag} {mg : Str → Option Value} {base : Heap} {tabs : List Addr}
/-! ### the pool of a law -/
def wCellAt : WFn := fun ds Q => ∃ (ns : List Int) (k : Int), ds = [.lst (ns.map D.int), .int k] ∧ ns.length ≤ 63 ∧ 0 ≤ k ∧ ∀ c : Int, Q (.f (.int c))
theorem mono__law_cell_at : MonoF wCellAt := fun ds Q Q' i ⟨ns, k, h, h1, h2, q⟩ => ⟨ns, k, h, h1, h2, fun c => i _ (q c)⟩
theorem ok_cell_at (T : Txt K mg) (A : At K mg "_law_cell_at" s__law_cell_at ["script", "k"]) : Cal P w K mg base 1 "_law_cell_at" (spW K tabs (liftF wCellAt)) := by
  refine A.of fun f fd F => fx_fnF F sc__law_cell_at (fun ds Q ⟨ns, k, h, _⟩ => by rw [h]; rfl) fun cdv A outer s H E TT P0 σ0 hcd hr => ⟨_, (gss_cons (gs_if (gt_cmp opx_lt (GE.of_pure (gp_var (pv 1))) (ge_cbB1 cax_len (by rfl) T.z_len (by decide +kernel) (pv 0)) (nomark _))
      (gss_one (gs_ret (GE.of_pure (gp_ix ixx (gp_var (pv 0)) (gp_var (pv 1)) (fun _ _ => rfl)))))
      gss_nil)
      (gss_one (gs_ret (GE.of_pure gp_int)))), fun ds Q ⟨ns, k, h, h1, h2, q⟩ => ?_⟩
  subst h
  refine x_start (e := [some (.f (.lst (ns.map D.int))), some (.f (.int k))]) rfl ?_
  walk_at "x"
  rw [List.length_map]
  refine x_iteD (fun h3 => ?_) (fun h3 => ?_)
  · walk_at "x"
    refine x_ixM h2 (by rw [List.length_map]; omega) fun d hd => ?_
    obtain ⟨c, _, rfl⟩ := List.mem_map.mp hd
    walk_at "x"
    exact q c
  · walk_at "x"
    exact q 0
theorem mono__law_pool : MonoF wUrn := mono__law_urn
theorem ok_pool (T : Txt K mg) (A : At K mg "_law_pool" s__law_pool ["cell", "place"]) : Cal P w K mg base 1 "_law_pool" (spW K tabs (liftF wUrn)) := by
  refine A.of fun f fd F => fx_fnF F sc__law_pool (fun ds Q ⟨c, k, h, _⟩ => by rw [h]; rfl) fun cdv A outer s H E TT P0 σ0 hcd hr => ⟨_, (gss_one (gs_ret (ge_lstOD (gd_cons (ge_cbB (cax_max2 rfl) (by rfl) T.z_max (by decide +kernel) (gd_cons (GE.of_pure (gp_op opx_sub (gp_var (pv 0)) (gp_op opx_pow gp_int gp_int))) (gd_cons (GE.of_pure gp_int) gd_nil))) (gd_cons (GE.of_pure (gp_op opx_mod (gp_op opx_add (gp_op opx_mod (gp_var (pv 0)) gp_int) (gp_op opx_mul gp_int (gp_var (pv 1)))) gp_int)) (gd_cons (GE.of_pure gp_int) gd_nil)))))), fun ds Q ⟨c, k, h, k0, k1, q⟩ => ?_⟩
  subst h
  refine x_start (e := [some (.f (.int c)), some (.f (.int k))]) rfl ?_
  walk_at "x"
  refine q _ ⟨_, _, _, rfl, ?_, Int.le_refl _, Int.le_refl _⟩
  have z : (2147483629 : Nat) < 2 ^ 200 := by decide
  have a := Int.emod_nonneg (c % 2147483629 + 40009 * k) (show (2147483629 : Int) ≠ 0 by decide)
  have b := Int.emod_lt_of_pos (c % 2147483629 + 40009 * k) (show (0 : Int) < 2147483629 by decide)
  omega
theorem mono__law_draw : MonoU2 wLot := mono__law_lot
theorem ok_draw (A : At K mg "_law_draw" s__law_draw ["pool", "many"]) : Cal P w K mg base 1 "_law_draw" (spW K tabs (liftU wLot)) := by
  refine A.of fun f fd F => fx_fnU F sc__law_draw (fun o ds Q ⟨n, m, h, _⟩ => by rw [h]; rfl) fun cdv A outer s H E TT P0 σ0 hcd hr => ⟨_, (gss_cons (gs_asg (GE.of_pure (gp_op opx_add (gp_ix ixx (gp_var (pv 0)) gp_int (fun _ _ => rfl)) gp_int)) (gg_setL (pv 0) (GE.of_pure gp_int)))
      (gss_cons (gs_setE (i := 2) sc__law_draw.nd rfl (Or.inl rfl) (GE.of_pure (gp_op opx_mod (gp_op opx_pow (gp_op opx_add (gp_op opx_add (gp_ix ixx (gp_var (pv 0)) gp_int (fun _ _ => rfl)) (gp_op opx_mul (gp_op opx_mul gp_int (gp_ix ixx (gp_var (pv 0)) gp_int (fun _ _ => rfl))) (gp_ix ixx (gp_var (pv 0)) gp_int (fun _ _ => rfl)))) gp_int) gp_int) gp_int)))
      (gss_cons (gs_asg (GE.of_pure (gp_op opx_mod (gp_op opx_add (gp_op opx_mul (gp_var (pv 2)) gp_int) (gp_op opx_mul gp_int (gp_ix ixx (gp_var (pv 0)) gp_int (fun _ _ => rfl)))) gp_int)) (gg_setL (pv 0) (GE.of_pure gp_int)))
      (gss_cons (gs_setE (i := 3) sc__law_draw.nd rfl (Or.inl rfl) (GE.of_pure (gp_op opx_mod (gp_op opx_div (gp_ix ixx (gp_var (pv 0)) gp_int (fun _ _ => rfl)) gp_int) (gp_var (pv 1)))))
      (gss_cons (gs_if (gt_cmpP opx_gt (gp_ix ixx (gp_var (pv 0)) gp_int (fun _ _ => rfl)) gp_int (nomark _))
      (gss_cons (gs_setE (i := 3) sc__law_draw.nd rfl (Or.inl rfl) (GE.of_pure (gp_op opx_mod (gp_ix ixx (gp_var (pv 0)) gp_int (fun _ _ => rfl)) (gp_var (pv 1)))))
      (gss_one (gs_asg (GE.of_pure (gp_op opx_div (gp_ix ixx (gp_var (pv 0)) gp_int (fun _ _ => rfl)) (gp_var (pv 1)))) (gg_setL (pv 0) (GE.of_pure gp_int)))))
      gss_nil)
      (gss_one (gs_ret (GE.of_pure (gp_var (pv 3)))))))))), fun o ds Q ⟨n, m, h, ⟨a, b, c, ho, hb, hc, hc2⟩, hn, hm, hm2, q⟩ => ?_⟩
  subst h ho
  refine x_start (e := [some (.own (.lst [.int a, .int b, .int c])), some (.f (.int m)), none, none]) rfl ?_
  walk_at "x"
  have hs : (c + 1) * (c + 1) ≤ 100001 * 100001 := Int.mul_le_mul (by omega) (by omega) (by omega) (by decide)
  have hs0 : 0 ≤ (c + 1) * (c + 1) := Int.mul_nonneg (by omega) (by omega)
  refine x_pow (pow_ok (a := 240) ?_ (by decide) (by decide) (by decide)) ?_
  · rw [Int.mul_assoc]
    have e : (2 : Nat) ^ 200 + 7 * (100001 * 100001) + 1 < 2 ^ 240 := by decide
    omega
  walk_at "x"
  generalize (b + 7 * (c + 1) * (c + 1) + 1) ^ Int.toNat 2 % 2147483587 = st
  have z : (2147483629 : Nat) < 2 ^ 200 := by decide
  have b0 := Int.emod_nonneg (st * 69621 + 40692 * (c + 1)) (show (2147483629 : Int) ≠ 0 by decide)
  have b1 := Int.emod_lt_of_pos (st * 69621 + 40692 * (c + 1)) (show (0 : Int) < 2147483629 by decide)
  generalize (st * 69621 + 40692 * (c + 1)) % 2147483629 = b2 at b0 b1
  refine x_iteD (fun ha => ?_) (fun ha => ?_)
  · walk_at "x"
    exact q _ _ (Int.emod_nonneg _ (by omega)) (Int.emod_lt_of_pos _ hm) ⟨_, _, _, rfl, by omega, by omega, by omega⟩
  · walk_at "x"
    exact q _ _ (Int.emod_nonneg _ (by omega)) (Int.emod_lt_of_pos _ hm) ⟨_, _, _, rfl, by omega, by omega, by omega⟩

end
end K80

namespace K80
open PySem PySem.Spec PyProof.Rows L2 Lk Evl Fx


local macro_rules | `(tactic| walk_at "sz") => `(tactic| first
  | exact Nat.le_of_ble_eq_true rfl
  | assumption
  | exact small_sz (Nat.le_of_ble_eq_true rfl)
  | (simp only [List.length_cons, List.length_nil, List.length_map, List.length_append]; first | omega | exact small_sz (by omega)))
local macro_rules | `(tactic| walk_at "x1") => `(tactic| first
  | with_reducible refine x_seq ?_
  | (with_reducible show wVar _ _ _); first | refine x_varF rfl ?_ | refine x_varO rfl ?_ | refine x_varV rfl ?_
  | with_reducible refine x_c ?_
  | with_reducible refine x_exf ?_
  | with_reducible refine x_excd ?_
  | (with_reducible show ∃ d1, Sl.cd (Sl.vw _) = some d1 ∧ _); refine x_excV rfl ?_
  | (with_reducible show ∃ d1, Sl.cd (Sl.own _) = some d1 ∧ _); refine x_excO rfl ?_
  | with_reducible refine x_binP ?_
  | with_reducible refine x_bin ?_
  | with_reducible refine x_adC ?_
  | with_reducible refine x_adN ?_
  | with_reducible refine x_lst ?_
  | with_reducible refine x_tup ?_
  | with_reducible refine x_lstO ?_
  | (with_reducible refine x_and (p := _ ≤ sizeLine) ?h ?_); (case h => walk_at "sz")
  | with_reducible refine x_callF ?_
  | with_reducible refine x_callL ?_
  | with_reducible refine x_listO ?_
  | with_reducible refine x_dstar ?_
  | with_reducible refine x_getN ?_
  | with_reducible refine x_ss ?_
  | with_reducible refine x_mulO ?_
  | with_reducible refine x_iZM ?_
  | (with_reducible show wCallU _ _ _ _ _); refine x_callU rfl ?_
  | with_reducible refine x_callV ?_
  | with_reducible refine x_join ?_
  | with_reducible refine x_waD ?_
  | with_reducible refine x_lc ?_
  | with_reducible refine x_lc2 ?_
  | with_reducible refine x_lenSets ?_
  | (with_reducible show wApp _ _ _ _); refine x_app rfl ?_
  | (with_reducible show wBinV _ _ _ _ _); refine x_binV rfl ?_
  | (with_reducible show wPopD _ _ _ _); refine x_popD rfl ?_
  | (with_reducible show wCatV _ _ _ _); refine x_catV rfl ?_
  | with_reducible refine x_slN2 ?_
  | with_reducible refine x_sortedSets ?_
  | with_reducible refine x_tplL ?_
  | with_reducible refine x_tplT ?_
  | with_reducible refine x_isB ?_
  | with_reducible refine x_r1 ?_
  | with_reducible refine x_r2 ?_
  | (with_reducible refine x_r1e ?h0 ?h1 ?_); (case h0 => omega); (case h1 => omega)
  | with_reducible refine x_iL ?_
  | with_reducible refine x_iT ?_
  | with_reducible refine x_iS ?_
  | with_reducible refine x_iE ?_
  | with_reducible refine x_iEe ?_
  | with_reducible refine x_yes ?_
  | with_reducible refine x_for ?_
  | (with_reducible show wLot _ [D.int _] _); (refine' x_lot (by assumption) ?h1 ?h2 ?h3 ?_); (case h1 => omega); (case h2 => first | decide | omega); (case h3 => first | decide | omega)
  | (with_reducible show ∃ o, _ = some (some (Sl.own o)) ∧ _); refine x_exO rfl ?_
  | with_reducible refine x_exo ?_
  | with_reducible refine x_ret ?_
  | with_reducible refine x_set ?_
  | with_reducible refine x_fin ?_
  | with_reducible refine x_fino ?_
  | (with_reducible refine x_and (p := _ < List.length _) ?h ?_); (case h => exact Nat.le_of_ble_eq_true rfl); (try dsimp only [List.set_cons_succ, List.set_cons_zero])
  | with_reducible refine x_next ?_
  | with_reducible refine x_retN ?_
  | with_reducible refine x_drop ?_
  | with_reducible refine x_asg ?_
  | (with_reducible refine x_gtp ?h ?_); (case h => rfl)
  | with_reducible refine x_gcons ?_
  | with_reducible refine x_gnil ?_
  | (with_reducible refine x_gn ?h ?_); (case h => exact Nat.le_of_ble_eq_true rfl); (try dsimp only [List.set_cons_succ, List.set_cons_zero])
  | with_reducible refine x_ifS ?_
  | with_reducible refine x_if ?_
  | with_reducible refine x_itT ?_
  | with_reducible refine x_itF ?_
  | with_reducible refine x_iteN ?_
  | with_reducible refine x_tru ?_
  | with_reducible refine x_tB ?_
  | with_reducible refine x_dtB ?_
  | with_reducible refine x_dtN ?_
  | with_reducible refine x_exb ?_
  | with_reducible refine x_exdb ?_
  | with_reducible refine x_tand ?_
  | with_reducible refine x_tor ?_
  | with_reducible refine x_tnot ?_
  | with_reducible refine x_and2 ?_
  | with_reducible refine x_or2 ?_
  | with_reducible refine x_not2 ?_
  | with_reducible refine x_chain ?_
  | with_reducible refine x_sub ?_
  | with_reducible refine x_addI ?_
  | (with_reducible refine x_addS ?h ?_); (case h => walk_at "sz")
  | (with_reducible refine x_addL ?h ?_); (case h => walk_at "sz")
  | (with_reducible refine x_addT ?h ?_); (case h => walk_at "sz")
  | with_reducible refine x_lt ?_
  | with_reducible refine x_le ?_
  | with_reducible refine x_gt ?_
  | with_reducible refine x_ge ?_
  | with_reducible refine x_ltS ?_
  | with_reducible refine x_eqI ?_
  | with_reducible refine x_neI ?_
  | with_reducible refine x_allSg ?_
  | with_reducible refine x_m0 ?_
  | with_reducible refine x_lstT ?_
  | with_reducible refine x_lstL ?_
  | with_reducible refine x_strB ?_
  | with_reducible refine x_strN ?_
  | with_reducible refine x_strS ?_
  | with_reducible refine x_isT ?_
  | with_reducible refine x_isI ?_
  | with_reducible refine x_neg ?_
  | with_reducible refine x_un ?_
  | (with_reducible refine x_pow ?h ?_); (case h => exact ⟨by decide, by decide +kernel⟩)
  | (with_reducible refine x_mod ?h ?_); (case h => first | decide | omega)
  | (with_reducible refine x_mul ?h ?_); (case h => exact mul_ok (by first | decide | omega) (by first | decide | omega))
  | (with_reducible refine x_div ?h ?_); (case h => exact div_ok (by first | decide | omega) (by first | decide | omega))
  | with_reducible refine x_ipA ?_
  | (with_reducible show wAugL _ _ _ _ _ _); refine x_augL rfl ?_
  | (with_reducible show wAug _ _ _ _ _); refine x_aug rfl ?_
  | (with_reducible show ∃ k' ds d, Sl.f (D.int _) = Sl.f (D.int k') ∧ _); refine x_augL1 rfl (by decide) rfl ?_
  | (with_reducible show ∃ k' j ds, Sl.f (D.int _) = Sl.f (D.int k') ∧ _ = some (some (Sl.own (O.lst ds))) ∧ ixN _ k' = some j ∧ _); refine x_setL1 rfl rfl ?_; (try dsimp only [List.set_cons_succ, List.set_cons_zero])
  | (with_reducible show ∃ ds j, _ = some (some (Sl.own (O.lst ds))) ∧ ixN _ _ = some j ∧ _); refine x_augL2 rfl rfl ?_; (try dsimp only [List.set_cons_succ, List.set_cons_zero])
  | (with_reducible show gSetL _ _ _ _ _); refine x_setL rfl ?_
  | (with_reducible show dIx (D.lst _) (D.int _) _); refine x_ixL rfl ?_
  | (with_reducible show dIx (D.tup _) (D.int _) _); refine x_ixT rfl ?_
  | with_reducible refine x_cb ?_
  | (with_reducible show wCB1 _ _ _ _); refine x_cb1 rfl rfl ?_
  | with_reducible refine x_fm ?_
  | with_reducible refine x_exl ?_
  | with_reducible refine x_ext ?_
  | with_reducible refine x_exs ?_
  | with_reducible refine x_exi ?_
  | with_reducible refine x_sl ?_
  | with_reducible refine x_slN ?_
  | with_reducible refine x_slS ?_
  | with_reducible refine x_frz ?_
  | with_reducible refine x_frL ?_
  | with_reducible refine x_revT ?_
  | with_reducible refine x_revL ?_
  | with_reducible refine x_splitO ?_
  | (with_reducible show wSlO _ _ _ _ _); refine x_slO rfl ?_
  | (with_reducible show ∃ ds2, _ = some (some (Sl.own (O.lst ds2))) ∧ _); refine x_exOl rfl ?_
  | with_reducible refine x_dictO ?_
  | with_reducible refine x_psC ?_
  | with_reducible refine x_psN ?_
  | with_reducible refine x_get ?_
  | (with_reducible show gSetSl _ _ _ _ _ _); refine x_setSl rfl ?_
  | with_reducible refine x_split ?_
  | with_reducible refine x_isN1 ?_
  | with_reducible refine x_isN0 rfl ?_
  | with_reducible refine x_iZ ?_
  | with_reducible refine x_zT ?_
  | with_reducible refine x_zL ?_
  | with_reducible refine x_stp ?_
  | with_reducible refine x_js ?_
  | with_reducible refine x_jsC ?_
  | with_reducible refine x_jsN ?_
  | with_reducible refine x_fmt ?_
  | with_reducible refine x_callFX ?_
  | (with_reducible refine x_glp ?h ?_); (case h => rfl)
  | with_reducible refine x_raiseR ?_
  | with_reducible refine x_row ?_
  | with_reducible refine x_lenL ?_
  | with_reducible refine x_lenT ?_
  | with_reducible refine x_lenD ?_
  | (with_reducible refine x_lenS ?h ?_); (case h => walk_at "sz")
  | with_reducible refine x_max ?_
  | with_reducible refine x_min ?_
  | with_reducible refine x_intI ?_
  | with_reducible refine x_intB ?_
  | (with_reducible refine x_isInt ?h ?_); (case h => first | assumption | exact part_ty (by assumption) | (intro _ hh; cases hh; done))
  | (with_reducible refine x_isBl ?h ?_); (case h => first | assumption | exact part_ty (by assumption) | (intro _ hh; cases hh; done))
  | (with_reducible refine x_isStr ?h ?_); (case h => first | assumption | exact part_ty (by assumption) | (intro _ hh; cases hh; done))
  | (with_reducible refine x_isTup ?h ?_); (case h => first | assumption | exact part_ty (by assumption) | (intro _ hh; cases hh; done))
  | (with_reducible refine x_isLst ?h ?_); (case h => first | assumption | exact part_ty (by assumption) | (intro _ hh; cases hh; done))
  | (with_reducible refine x_isDic ?h ?_); (case h => first | assumption | exact part_ty (by assumption) | (intro _ hh; cases hh; done))
  | (with_reducible refine x_itTe ?e ?_); (case e => rfl)
  | (with_reducible refine x_itFe ?e ?_); (case e => rfl)
  | with_reducible refine x_dnewO ?_
  | with_reducible refine x_dput ?_
  | with_reducible refine x_dix ?_
  | with_reducible refine x_sortedD ?_
  | with_reducible refine x_star ?_
  | with_reducible refine x_starT ?_
  | with_reducible refine x_frzD ?_
  | with_reducible refine x_sw ?_
  | with_reducible refine x_cnt ?_
  | with_reducible refine x_waC ?_
  | with_reducible refine x_waN ?_
  | with_reducible refine x_lenDD ?_
  | with_reducible refine x_allX ?_
  | (with_reducible show wFz _ _ _ _); refine x_fz rfl ?_
  | (with_reducible show wFzS _ _ _ _); refine x_fzS rfl ?_
  | (with_reducible show wFzO _ _ _ _); refine x_fzO rfl ?_
  | (with_reducible show wiK _ _ _); refine x_iK rfl ?_
  | (with_reducible show wiIt _ _ _); refine x_iIt rfl ?_
  | with_reducible refine x_iE1 ?_
  | with_reducible refine x_forR ?_
  | (with_reducible show wDIxV _ _ _ _); refine x_dixV rfl (cd_dicO _) ?_
  | (with_reducible show wDPop _ _ _ _); refine x_dpop rfl ?_
  | with_reducible refine x_pickO ?_
  | (with_reducible show wExt _ _ _ _); refine x_extO rfl ?_
  | with_reducible refine x_sortedR ?_
  | with_reducible refine x_sortedL ?_
  | with_reducible refine x_ixSt ?_
  | (with_reducible show wiVal _ _ _); refine x_iVal rfl ?_
  | with_reducible refine x_dictP ?_
  | with_reducible refine x_dictZip ?_
  | with_reducible refine x_revS ?_
  | with_reducible refine x_par ?_
  | (with_reducible show wIsiV _ _ _ _ _); refine x_isiV rfl ?_
  | ((with_reducible show _ ∧ _); refine And.intro (Nat.le_of_ble_eq_true rfl) ?_))
local macro_rules | `(tactic| walk_at "x") => `(tactic| repeat (walk_at "x1"))

section
variable {P : Program} {w : World} {K : PySem.W.Frag} {mg : Str → Option Value} {base : Heap} {tabs : List Addr}
/-! ### spans, names -/
def wSpanL : WUn := fun o ds Q => ∃ (n : Nat) (way : Int), ds = [.int way] ∧ Un o n ∧ n + 2 ≤ 100000 ∧ ∀ (s u : Int) o', 0 ≤ s → s < u → u ≤ 1000000 → Un o' (n + 2) → Q (.f (.tup [.int s, .int u])) o'
theorem mono__law_span : MonoU2 wSpanL := fun o ds Q Q' i ⟨n, way, h1, h2, h3, q⟩ => ⟨n, way, h1, h2, h3, fun s u o' a b c d => i _ _ (q s u o' a b c d)⟩
theorem ok_lspan (c__law_draw : Cal P w K mg base 1 "_law_draw" (spW K tabs (liftU wLot))) (A : At K mg "_law_span" s__law_span ["pool", "way"]) : Cal P w K mg base 2 "_law_span" (spW K tabs (liftU wSpanL)) := by
  refine A.of fun f fd F => fx_fnU F sc__law_span (fun o ds Q ⟨n, m, h, _⟩ => by rw [h]; rfl) fun cdv A outer s H E TT P0 σ0 hcd hr => ⟨_, (gss_cons (gs_setE (i := 2) sc__law_span.nd rfl (Or.inl rfl) (ge_callU c__law_draw hr (by first | decide | omega) rfl rfl rfl mono__law_draw (pv 0) (gd_cons (GE.of_pure gp_int) gd_nil)))
      (gss_cons (gs_if (gt_cmpP (opx_eq hr.units) (gp_var (pv 1)) gp_int (nomark _))
      (gss_one (gs_ret (ge_tupD (gd_cons (GE.of_pure gp_int) (gd_cons (GE.of_pure gp_int) gd_nil)))))
      gss_nil)
      (gss_cons (gs_if (gt_cmpP (opx_eq hr.units) (gp_var (pv 1)) gp_int (nomark _))
      (gss_one (gs_ret (ge_tupD (gd_cons (GE.of_pure (gp_var (pv 2))) (gd_cons (ge_op opx_add (GE.of_pure (gp_op opx_add (gp_var (pv 2)) gp_int)) (ge_callU c__law_draw hr (by first | decide | omega) rfl rfl rfl mono__law_draw (pv 0) (gd_cons (GE.of_pure gp_int) gd_nil))) gd_nil)))))
      gss_nil)
      (gss_one (gs_ret (ge_tupD (gd_cons (GE.of_pure (gp_op opx_div (gp_var (pv 2)) gp_int)) (gd_cons (ge_op opx_add (GE.of_pure gp_int) (ge_callU c__law_draw hr (by first | decide | omega) rfl rfl rfl mono__law_draw (pv 0) (gd_cons (GE.of_pure gp_int) gd_nil))) gd_nil)))))))), fun o ds Q ⟨n, way, h, u, hn, q⟩ => ?_⟩
  subst h
  refine x_start (e := [some (.own o), some (.f (.int way)), none]) rfl ?_
  walk_at "x"
  intro a o1 a0 a1 u1
  walk_at "x"
  refine x_iteD (fun h1 => ?_) (fun h1 => ?_)
  · walk_at "x"
    exact q _ _ _ (by decide) (by decide) (by decide) (u1.mono (by omega))
  · walk_at "x"
    refine x_iteD (fun h2 => ?_) (fun h2 => ?_)
    · walk_at "x"
      intro b o2 b0 b1 u2
      walk_at "x"
      exact q _ _ _ (by omega) (by omega) (by omega) u2
    · walk_at "x"
      intro b o2 b0 b1 u2
      walk_at "x"
      exact q _ _ _ (by omega) (by omega) (by omega) u2
def wNames : WUn := fun o ds Q => ∃ (n : Nat) (m : Int), ds = [.int m] ∧ Un o n ∧ n + 100 ≤ 100000 ∧ 0 ≤ m ∧ m ≤ 9 ∧ ∀ (xs : List Str) o', (xs.length : Int) = m → (∀ x ∈ xs, nameB (.str x) = true) → xs.Nodup → Un o' (n + 100) → Q (.f (.lst (xs.map D.str))) o'
theorem mono__law_names : MonoU2 wNames := fun o ds Q Q' i ⟨n, m, h1, h2, h3, h4, h5, q⟩ => ⟨n, m, h1, h2, h3, h4, h5, fun xs o' a b c d => i _ _ (q xs o' a b c d)⟩

/-! ### words of small letters -/
def low (a : Str) : Prop := ∀ c ∈ a.cps.toList, 97 ≤ c ∧ c ≤ 122
theorem btw_iff {c : Nat} : btw "a" "z" c = true ↔ 97 ≤ c ∧ c ≤ 122 := by
  unfold btw
  rw [Bool.and_eq_true, show (Str.ofString "a").cps.toList = [97] by decide +kernel, show (Str.ofString "z").cps.toList = [122] by decide +kernel, Bool.not_eq_true', Bool.not_eq_true', decide_eq_false_iff_not, decide_eq_false_iff_not]
  constructor
  · rintro ⟨h1, h2⟩
    refine ⟨?_, ?_⟩
    · by_cases h : c < 97
      · exact absurd (List.Lex.rel h) h1
      · omega
    · by_cases h : 122 < c
      · exact absurd (List.Lex.rel h) h2
      · omega
  · rintro ⟨h1, h2⟩
    refine ⟨fun h => ?_, fun h => ?_⟩
    · cases h with
      | rel h => omega
      | cons h => cases h
    · cases h with
      | rel h => omega
      | cons h => cases h
theorem name_iff {a : Str} : nameB (.str a) = true ↔ 1 ≤ a.length ∧ a.length ≤ 8 ∧ low a := by
  show (decide ((1 : Int) ≤ (a.length : Int)) && (decide ((a.length : Int) ≤ 8) && Fx.nmB "a" "z" a)) = true ↔ _
  unfold Fx.nmB
  rw [Bool.and_eq_true, Bool.and_eq_true, decide_eq_true_iff, decide_eq_true_iff, show a.cps.size = a.cps.toList.length by simp, rng_all, List.all_eq_true]
  constructor
  · rintro ⟨h1, h2, h3⟩
    exact ⟨by omega, by omega, fun c hc => btw_iff.mp (h3 c hc)⟩
  · rintro ⟨h1, h2, h3⟩
    exact ⟨by omega, by omega, fun c hc => btw_iff.mpr (h3 c hc)⟩
theorem low_app {a b : Str} (ha : low a) (hb : low b) : low (a ++ b) := fun c hc => by
  have e : (a ++ b).cps.toList = a.cps.toList ++ b.cps.toList := by
    show (a.cps ++ b.cps).toList = _
    rw [Array.toList_append]
  rw [e] at hc
  rcases List.mem_append.mp hc with h | h
  · exact ha c h
  · exact hb c h
/-- "".join of single small letters -/
theorem low_join : ∀ {ls : List Str}, (∀ x ∈ ls, low x ∧ x.length = 1) → low (Txt.join "" ls) ∧ (Txt.join "" ls).length = ls.length
  | [], _ => ⟨(fun c hc => (List.not_mem_nil (show c ∈ ([] : List Nat) from hc)).elim), by decide +kernel⟩
  | [x], h => by
    obtain ⟨h1, h2⟩ := h x (List.mem_singleton.mpr rfl)
    exact ⟨h1, h2⟩
  | x :: y :: r, h => by
    obtain ⟨i1, i2⟩ := low_join (ls := y :: r) fun z hz => h z (List.mem_cons_of_mem _ hz)
    obtain ⟨h1, h2⟩ := h x (List.mem_cons_self ..)
    have e : Txt.join "" (x :: y :: r) = x ++ Txt.join "" (y :: r) := by
      refine TL.ext_tl ?_
      rw [show Txt.join "" (x :: y :: r) = x ++ "" ++ Txt.join "" (y :: r) from by rw [TL.join_eq, TL.join_eq]; rfl]
      rw [TL.tl_append, TL.tl_append, TL.tl_append]
      show TL.tl x ++ [] ++ _ = _
      rw [List.append_nil]
    rw [e]
    refine ⟨low_app h1 i1, ?_⟩
    rw [TL.len_tl, TL.tl_append, List.length_append, ← TL.len_tl, ← TL.len_tl, h2, i2]
    simp only [List.length_cons]
    omega

/-! ### lists of texts -/
theorem nodup_le {l m : List Str} : l.Nodup → (∀ x ∈ l, x ∈ m) → l.length ≤ m.length := by
  induction l generalizing m with
  | nil => intros; exact Nat.zero_le _
  | cons x l ih =>
    intro nd h
    obtain ⟨hx, nd⟩ := List.nodup_cons.mp nd
    have hm := h x (List.mem_cons_self ..)
    have i := ih (m := m.erase x) nd fun y hy => (List.mem_erase_of_ne (fun e => hx (by rw [← e]; exact hy))).mpr (h y (List.mem_cons_of_mem _ hy))
    rw [List.length_erase_of_mem hm] at i
    have := List.length_pos_of_mem hm
    rw [List.length_cons]
    omega
theorem met_mem {key : Nat → Str} : ∀ (i : Nat) (x : Str), x ∈ SS.met key i → ∃ j, j < i ∧ x = key j
  | 0, x, h => by cases h
  | i + 1, x, h => by
    unfold SS.met at h
    split at h
    · obtain ⟨j, h1, h2⟩ := met_mem i x h
      exact ⟨j, by omega, h2⟩
    · rcases List.mem_append.mp h with h | h
      · obtain ⟨j, h1, h2⟩ := met_mem i x h
        exact ⟨j, by omega, h2⟩
      · exact ⟨i, by omega, List.mem_singleton.mp h⟩
theorem met_nodup {key : Nat → Str} : ∀ i : Nat, (SS.met key i).Nodup
  | 0 => List.nodup_nil
  | i + 1 => by
    unfold SS.met
    split
    · exact met_nodup i
    · rename_i h
      refine List.nodup_append.mpr ⟨met_nodup i, List.pairwise_singleton _ _, fun a ha b hb e => h ?_⟩
      rw [List.mem_singleton.mp hb] at e
      subst e
      exact List.any_eq_true.mpr ⟨_, ha, beq_self_eq_true _⟩
theorem dst_le {xs ys : List Str} (h : ∀ x ∈ xs, x ∈ ys) : dst xs ≤ ys.length := by
  refine nodup_le (met_nodup _) fun x hx => ?_
  obtain ⟨j, h1, rfl⟩ := met_mem _ x hx
  refine h _ ?_
  rw [List.getD_eq_getElem?_getD, List.getElem?_eq_getElem h1]
  exact List.getElem_mem h1
def lets : List Str := (Str.ofString "abcdefghijklmnopqrstuvwxyz").cps.toList.map fun c => ⟨#[c]⟩
theorem lets_nodup : lets.Nodup := by decide +kernel
theorem lets_name : ∀ x ∈ lets, nameB (.str x) = true := by decide +kernel
theorem pick {xs : List Str} (hl : xs.length ≤ 9) (w : Str) (hw : nameB (.str w) = true) : ∃ y r, (w :: lets).filter (fun y => !xs.contains y) = y :: r ∧ y ∉ xs ∧ nameB (.str y) = true := by
  cases e : (w :: lets).filter (fun y => !xs.contains y) with
  | nil =>
    have h := nodup_le (m := xs) lets_nodup fun x hx => by
      by_cases hc : x ∈ xs
      · exact hc
      · have : x ∈ (w :: lets).filter (fun y => !xs.contains y) := List.mem_filter.mpr ⟨List.mem_cons_of_mem _ hx, by simpa using hc⟩
        rw [e] at this
        cases this
    have l : lets.length = 26 := by decide +kernel
    omega
  | cons y r =>
    refine ⟨y, r, rfl, ?_⟩
    have : y ∈ (w :: lets).filter (fun y => !xs.contains y) := by rw [e]; exact List.mem_cons_self ..
    obtain ⟨h1, h2⟩ := List.mem_filter.mp this
    refine ⟨by simpa using h2, ?_⟩
    rcases List.mem_cons.mp h1 with rfl | h1
    · exact hw
    · exact lets_name y h1
theorem eqB_nil {xs : List Str} : eqB (.lst (xs.map D.str)) (.lst []) = xs.isEmpty := by
  show PyData.eqv (.list (D.pyL (xs.map D.str))) (.list (D.pyL [])) = _
  cases xs with
  | nil => unfold PyData.eqv; first | rfl | decide +kernel | (unfold PyData.eqvAll; rfl)
  | cons x xs => unfold PyData.eqv; first | rfl | (unfold PyData.eqvAll; rfl)
theorem at_last {α : Type} {ds : List α} (h : 1 ≤ ds.length) : ∃ d, L2.atI ds (-1) = some d ∧ d ∈ ds := by
  have e : L2.ixN ds.length (-1) = some (ds.length - 1) := by
    unfold L2.ixN
    simp
    omega
  refine ⟨ds[ds.length - 1], ?_, List.getElem_mem _⟩
  unfold L2.atI
  rw [e]
  exact List.getElem?_eq_getElem (by omega)
theorem signs_lets : Fx.signs (Str.ofString "abcdefghijklmnopqrstuvwxyz") = lets.map D.str := by
  unfold Fx.signs lets
  rw [List.map_map]
  rfl
theorem at_map {xs : List Str} {j : Nat} {d : D} (h : (xs.map D.str)[j]? = some d) : ∃ y, xs[j]? = some y ∧ d = .str y := by
  rw [List.getElem?_map] at h
  cases e : xs[j]? with
  | none => rw [e] at h; cases h
  | some y => rw [e] at h; cases h; exact ⟨y, rfl, rfl⟩
theorem sum_ones : ∀ {ls : List Str}, (∀ x ∈ ls, x.length = 1) → (ls.map (·.length)).sum = ls.length
  | [], _ => rfl
  | x :: ls, h => by
    rw [List.map_cons, List.sum_cons, h x (List.mem_cons_self ..), sum_ones fun y hy => h y (List.mem_cons_of_mem _ hy), List.length_cons]
    omega

/-! ### parts of texts, of lists -/
theorem cut_to {ds : List D} {k : Int} (h0 : 0 ≤ k) (h1 : k ≤ (ds.length : Int)) : Fx.cutD ds none (some k) = ds.take k.toNat := by
  unfold Fx.cutD HT.sIx
  dsimp only
  rw [if_neg (by omega), List.drop_zero, Nat.sub_zero, Nat.min_eq_left (by omega)]
theorem cut_from {ds : List D} {k : Int} (h0 : 0 ≤ k) (h1 : k ≤ (ds.length : Int)) : Fx.cutD ds (some k) none = ds.drop k.toNat := by
  unfold Fx.cutD HT.sIx
  dsimp only
  rw [if_neg (by omega), Nat.min_eq_left (by omega)]
  exact List.take_of_length_le (by rw [List.length_drop]; exact Nat.le_refl _)
theorem name_cut {a : Str} (h1 : 1 ≤ a.length) (ha : low a) : nameB (.str (cutS a none (some 8))) = true := by
  have e2 : (cutS a none (some 8)).cps.toList = a.cps.toList.take 8 := by
    unfold cutS HT.sIx
    have : a.length = a.cps.toList.length := TL.len_tl a
    simp only [this]
    rw [show (8 : Int).toNat = 8 from rfl]
    simp
  have l1 : a.length = a.cps.toList.length := TL.len_tl a
  have l2 : (cutS a none (some 8)).length = (cutS a none (some 8)).cps.toList.length := TL.len_tl _
  rw [e2, List.length_take] at l2
  refine name_iff.mpr ⟨by omega, by omega, fun c hc => ?_⟩
  rw [e2] at hc
  exact ha c (List.mem_of_mem_take hc)
/-! ### what can be laid, how deep -/
def Fit (n : Nat) (d : D) : Prop := PyData.canLay0 d.py = true ∧ PyData.depth d.py ≤ n
theorem fitL {n : Nat} {ds : List D} (h : ∀ x ∈ ds, Fit n x) : PyData.canLayAll0 (D.pyL ds) = true ∧ PyData.depthAll (D.pyL ds) ≤ n := by
  induction ds with
  | nil => exact ⟨by show PyData.canLayAll0 [] = true; unfold PyData.canLayAll0; rfl, by show PyData.depthAll [] ≤ n; unfold PyData.depthAll; exact Nat.zero_le _⟩
  | cons d ds ih =>
    obtain ⟨i1, i2⟩ := ih fun c hc => h c (List.mem_cons_of_mem _ hc)
    obtain ⟨h1, h2⟩ := h d (List.mem_cons_self ..)
    refine ⟨?_, ?_⟩
    · show PyData.canLayAll0 (d.py :: D.pyL ds) = true
      unfold PyData.canLayAll0
      rw [h1, i1]
      rfl
    · show PyData.depthAll (d.py :: D.pyL ds) ≤ n
      unfold PyData.depthAll
      omega
theorem fit_tup {n : Nat} {ds : List D} (h : ∀ x ∈ ds, Fit n x) : Fit (n + 1) (.tup ds) := by
  obtain ⟨h1, h2⟩ := fitL h
  refine ⟨?_, ?_⟩
  · show PyData.canLay0 (.tuple (D.pyL ds)) = true
    unfold PyData.canLay0
    exact h1
  · show PyData.depth (.tuple (D.pyL ds)) ≤ n + 1
    unfold PyData.depth
    omega
theorem fit_lst {n : Nat} {ds : List D} (h : ∀ x ∈ ds, Fit n x) : Fit (n + 1) (.lst ds) := by
  obtain ⟨h1, h2⟩ := fitL h
  refine ⟨?_, ?_⟩
  · show PyData.canLay0 (.list (D.pyL ds)) = true
    unfold PyData.canLay0
    exact h1
  · show PyData.depth (.list (D.pyL ds)) ≤ n + 1
    unfold PyData.depth
    omega
theorem fit_str {n : Nat} {a : Str} (h : PyData.strOk a = true) : Fit n (.str a) := by
  refine ⟨?_, ?_⟩
  · show PyData.canLay0 (.str a) = true
    unfold PyData.canLay0
    exact h
  · show PyData.depth (.str a) ≤ n
    unfold PyData.depth
    exact Nat.zero_le _
theorem fit_int {n : Nat} {i : Int} : Fit n (.int i) := ⟨rfl, Nat.zero_le _⟩
theorem Fit.mono {n m : Nat} {d : D} (h : Fit n d) (l : n ≤ m) : Fit m d := ⟨h.1, Nat.le_trans h.2 l⟩
theorem Fit.ok {n : Nat} {d : D} (h : Fit n d) (l : n ≤ 64) : okPy d = true := by
  unfold okPy SeqAt.shaped
  rw [h.1, decide_eq_true (Nat.le_trans h.2 l)]
  rfl
/-! ### rows, sound -/
theorem name_len {a : Str} (h : nameB (.str a) = true) : a.length ≤ 8 := (name_iff.mp h).2.1
theorem ok_names (T : Txt K mg) (c__law_draw : Cal P w K mg base 1 "_law_draw" (spW K tabs (liftU wLot))) (A : At K mg "_law_names" s__law_names ["pool", "many"]) : Cal P w K mg base 2 "_law_names" (spW K tabs (liftU wNames)) := by
  refine A.of fun f fd F => fx_fnU F sc__law_names (fun o ds Q ⟨n, m, h, _⟩ => by rw [h]; rfl) fun cdv A outer s H E TT P0 σ0 hcd hr => ⟨_, (gss_cons (gs_setE (i := 2) sc__law_names.nd rfl (Or.inr rfl) (GE.of_pure gp_str))
      (gss_cons (gs_setE (i := 3) sc__law_names.nd rfl (Or.inr rfl) (ge_lstOD gd_nil))
      (gss_cons (gs_for PassesOwn.never rfl (gi_r1 rfl T.z_range (GD.ga (gd_cons (GE.of_pure (gp_var (pv 1))) gd_nil))) (gg_name (pg_name (i := 4) sc__law_names.nd rfl (Or.inl rfl)) rfl)
      (gss_cons (gs_setE (i := 5) sc__law_names.nd rfl (Or.inl rfl) (ge_join (GE.of_pure gp_str) (ge_lcR (own := [("j", 6)]) (t := .name 6) rfl sc__law_names.nd (gi_r1 rfl T.z_range (GD.ga (gd_cons (ge_op opx_add (GE.of_pure gp_int) (ge_callU c__law_draw hr (by first | decide | omega) rfl rfl rfl mono__law_draw (pv 0) (gd_cons (GE.of_pure gp_int) gd_nil))) gd_nil))) (blkOk_by (own := [("j", 6)]) (N := ["pool", "many", "letters", "names", "k", "word", "j", "one", "letter"]) (sc := defScope s__law_names) (by decide +kernel)) (fun _ _ _ _ _ => (pg_name (i := 6) sc__law_names.nd rfl (Or.inl rfl))) (fun _ _ _ _ _ => (ge_ix ixx (GE.of_pure (gp_var (pv 2))) (ge_callU c__law_draw hr (by first | decide | omega) rfl rfl rfl mono__law_draw (pv 0) (gd_cons (GE.of_pure gp_int) gd_nil)) (fun _ _ => rfl))) (by decide) (mem1 rfl) (mem1 (Nat.le_of_ble_eq_true rfl)))))
      (gss_cut (gs_if (GW.gt (gw_and (gt_cmpV (opx_ne hr.units) (pv 3) (ge_lstD gd_nil) (nomark _)) (gw_and1 (gt_cmp (opx_eq hr.units) (ge_callU c__law_draw hr (by first | decide | omega) rfl rfl rfl mono__law_draw (pv 0) (gd_cons (GE.of_pure gp_int) gd_nil)) (GE.of_pure gp_int) (nomark _)))))
      (gss_one (gs_setE (i := 5) sc__law_names.nd rfl (Or.inl rfl) (ge_sl (ge_op opx_add (ge_ixV ixx (pv 3) (ge_un unx_neg (GE.of_pure gp_int)) (fun _ _ => rfl)) (GE.of_pure (gp_var (pv 5)))) go_none (go_some (GE.of_pure gp_int)))))
      gss_nil)
      (gss_one (gs_append (pv 3) (gd_cons (ge_ix ixx (ge_frz (ge_lcR1 (own := [("one", 7)]) (t := .name 7) rfl sc__law_names.nd (gi_list (ge_op opx_add (ge_lstD (gd_cons (GE.of_pure (gp_var (pv 5))) gd_nil)) (ge_frz (ge_lcR (own := [("letter", 8)]) (t := .name 8) rfl sc__law_names.nd (gi_str (GE.of_pure (gp_var (pv 2)))) (blkOk_by (own := [("letter", 8)]) (N := ["pool", "many", "letters", "names", "k", "word", "j", "one", "letter"]) (sc := defScope s__law_names) (by decide +kernel)) (fun _ _ _ _ _ => (pg_name (i := 8) sc__law_names.nd rfl (Or.inl rfl))) (fun _ _ _ _ _ => (GE.of_pure (gp_var (pv 8)))) (by decide) (mem1 rfl) (mem1 (Nat.le_of_ble_eq_true rfl)))))) (blkOk_by (own := [("one", 7)]) (N := ["pool", "many", "letters", "names", "k", "word", "j", "one", "letter"]) (sc := defScope s__law_names) (by decide +kernel)) (fun _ _ _ _ _ => (pg_name (i := 7) sc__law_names.nd rfl (Or.inl rfl))) (fun _ _ _ _ _ => (gt_cmpP (opx_nin hr.u65) (gp_var (pv 7)) (gp_var (pv 3)) (by rfl))) (fun _ _ _ _ _ => (GE.of_pure (gp_var (pv 7)))) (by decide) (mem1 rfl) (mem1 (Nat.le_of_ble_eq_true rfl)))) (GE.of_pure gp_int) (fun _ _ => rfl)) gd_nil))))))
      (gss_one (gs_ret (ge_move (pv 3))))))), fun o ds Q ⟨n, m, h, u, hn, m0, m9, q⟩ => ?_⟩
  subst h
  refine x_start (e := [some (.own o), some (.f (.int m)), none, none, none, none, none, none, none]) rfl ?_
  walk_at "x"
  refine ⟨fun i e => ∃ (o' : O) (xs : List Str) (x4 x5 x6 x7 x8 : Option Sl), Un o' (n + 10 * i) ∧ xs.length = i ∧ (∀ x ∈ xs, nameB (.str x) = true) ∧ xs.Nodup ∧ e = [some (.own o'), some (.f (.int m)), some (.f (.str "abcdefghijklmnopqrstuvwxyz")), some (.own (.lst (xs.map D.str))), x4, x5, x6, x7, x8], ⟨o, [], _, _, _, _, _, u, rfl, nofun, List.nodup_nil, rfl⟩, ?_, ?_⟩
  · rintro i d e hd ⟨o1, xs, x4, x5, x6, x7, x8, u1, hlen, hx, nd, rfl⟩
    obtain ⟨hi, rfl⟩ := rng_at hd
    walk_at "x"
    intro k1 o2 k10 k11 u2
    walk_at "x"
    rw [List.length_map, List.length_range]
    refine ⟨by omega, fun j acc e => ∃ (o3 : O) (ls : List Str) (y6 : Option Sl), Un o3 (n + 10 * i + 1 + j) ∧ acc = ls.map D.str ∧ ls.length = j ∧ (∀ x ∈ ls, low x ∧ x.length = 1) ∧ e = [some (.own o3), some (.f (.int m)), some (.f (.str "abcdefghijklmnopqrstuvwxyz")), some (.own (.lst (xs.map D.str))), some (.f (.int (i : Nat))), x5, y6, x7, x8], ⟨o2, [], x6, u2, rfl, rfl, nofun, rfl⟩, ?_, ?_⟩
    · rintro j d acc e hd ⟨o3, ls, y6, u3, rfl, hll, hlo, rfl⟩
      obtain ⟨hj, rfl⟩ := rng_at hd
      refine ⟨_, rfl, ?_⟩
      dsimp only [List.map_cons, List.map_nil, wipeE, setE, Tgt.js, List.set_cons_zero, List.set_cons_succ]
      walk_at "x"
      intro c o4 c0 c1 u4
      walk_at "x"
      obtain ⟨ch, e1, e2⟩ := atI_at (ds := (Str.ofString "abcdefghijklmnopqrstuvwxyz").cps.toList) c0 (by rw [show (Str.ofString "abcdefghijklmnopqrstuvwxyz").cps.toList.length = 26 by decide +kernel]; exact c1)
      have hch := (by decide +kernel : ∀ c ∈ (Str.ofString "abcdefghijklmnopqrstuvwxyz").cps.toList, 97 ≤ c ∧ c ≤ 122) ch (List.mem_of_getElem? e2)
      refine x_ixS (by decide +kernel) e1 ?_
      refine ⟨_, rfl, o4, ls ++ [⟨#[ch]⟩], _, u4.mono (by omega), by rw [List.map_append]; rfl, by rw [List.length_append, hll]; rfl, fun x hx => ?_, rfl⟩
      rcases List.mem_append.mp hx with h | h
      · exact hlo x h
      · rw [List.mem_singleton.mp h]
        exact ⟨fun c hc => by
          have hc : c ∈ [ch] := hc
          rw [List.mem_singleton.mp hc]
          exact hch, rfl⟩
    rintro acc e ⟨o3, ls, y6, u3, rfl, hll, hlo, rfl⟩
    obtain ⟨wl, wn⟩ := low_join hlo
    have hsum : (ls.map (·.length)).sum + ls.length * (Str.ofString "").length ≤ 16777216 := by
      rw [sum_ones fun x hx => (hlo x hx).2, show (Str.ofString "").length = 0 by decide +kernel]
      omega
    refine ⟨_, ls, .inl rfl, rfl, hsum, ?_⟩
    generalize Txt.join "" ls = word at wl wn
    walk_at "x"
    have sxs : ∀ x ∈ xs, PyData.strOk x = true := fun x h => name_cp (hx x h)
    have wname : nameB (.str word) = true := name_iff.mpr ⟨by omega, by omega, wl⟩
    refine x_cut (fun e => ∃ (w2 : Str) (o4 : O), Un o4 (n + 10 * i + 10) ∧ nameB (.str w2) = true ∧ e = [some (.own o4), some (.f (.int m)), some (.f (.str "abcdefghijklmnopqrstuvwxyz")), some (.own (.lst (xs.map D.str))), some (.f (.int (i : Nat))), some (.f (.str w2)), none, x7, x8]) ?_ ?_
    · walk_at "x"
      refine ⟨_, _, _, rfl, rfl, rfl, x_neD (okPy_strs sxs) (by decide +kernel) ?_⟩
      walk_at "x"
      rw [eqB_nil]
      cases hxs : xs with
      | nil =>
        rw [List.isEmpty_nil, if_pos rfl, if_neg Bool.false_ne_true]
        exact ⟨word, o3, u3.mono (by omega), wname, rfl⟩
      | cons x0 xr =>
        rw [List.isEmpty_cons, if_neg Bool.false_ne_true, ← hxs]
        walk_at "x"
        intro z1 o5 z10 z11 u5
        walk_at "x"
        refine x_iteD (fun hz => ?_) (fun hz => ?_)
        · walk_at "x"
          obtain ⟨z, e1, e2⟩ := at_last (ds := xs.map D.str) (by rw [hxs, List.length_map]; exact Nat.succ_le_succ (Nat.zero_le _))
          obtain ⟨z, hz2, rfl⟩ := List.mem_map.mp e2
          have nz := hx z hz2
          obtain ⟨z1, z8, zl⟩ := name_iff.mp nz
          obtain ⟨w1, w8, _⟩ := name_iff.mp wname
          refine ⟨_, _, _, rfl, rfl, rfl, x_ixL e1 ?_⟩
          walk_at "x"
          have el : (z ++ word).length = z.length + word.length := by rw [TL.len_tl, TL.tl_append, List.length_append, ← TL.len_tl, ← TL.len_tl]
          have sm : z.length + word.length ≤ sizeLine := Nat.le_trans (show z.length + word.length ≤ 16 by omega) (Nat.le_of_ble_eq_true rfl)
          refine x_addS sm ?_
          walk_at "x"
          refine ⟨by rw [el]; exact sm, nofun, Nat.le_of_ble_eq_true rfl, _, o5, u5.mono (by omega), name_cut (by omega) (low_app zl wl), rfl⟩
        · walk_at "x"
          exact ⟨word, o5, u5.mono (by omega), wname, rfl⟩
    rintro e ⟨w2, o4, u4, hw2, rfl⟩
    walk_at "x"
    rw [signs_lets]
    refine ⟨fun j acc e => acc = (lets.take j).map D.str ∧ ∃ z8, e = [some (.own o4), some (.f (.int m)), some (.f (.str "abcdefghijklmnopqrstuvwxyz")), some (.own (.lst (xs.map D.str))), some (.f (.int (i : Nat))), some (.f (.str w2)), none, x7, z8], ⟨rfl, _, rfl⟩, ?_, ?_⟩
    · rintro j d acc e hd ⟨rfl, z8, rfl⟩
      obtain ⟨y, hy, rfl⟩ := at_map hd
      refine ⟨_, rfl, ?_⟩
      dsimp only [List.map_cons, List.map_nil, wipeE, setE, Tgt.js, List.set_cons_zero, List.set_cons_succ]
      walk_at "x"
      exact ⟨by rw [take_snoc hy, List.map_append]; rfl, _, rfl⟩
    rintro acc e ⟨rfl, z8, rfl⟩
    rw [List.length_map, List.take_length]
    walk_at "x"
    refine ⟨fun j acc e => acc = (((w2 :: lets).take j).filter fun y => !xs.contains y).map D.str ∧ ∃ z7, e = [some (.own o4), some (.f (.int m)), some (.f (.str "abcdefghijklmnopqrstuvwxyz")), some (.own (.lst (xs.map D.str))), some (.f (.int (i : Nat))), some (.f (.str w2)), none, z7, none], ⟨rfl, _, rfl⟩, ?_, ?_⟩
    · rintro j d acc e hd ⟨rfl, z7, rfl⟩
      have hd : ((w2 :: lets).map D.str)[j]? = some d := hd
      obtain ⟨y, hy, rfl⟩ := at_map hd
      refine ⟨_, rfl, ?_⟩
      dsimp only [List.map_cons, List.map_nil, wipeE, setE, Tgt.js, List.set_cons_zero, List.set_cons_succ]
      walk_at "x"
      have oky : PyData.strOk y = true := name_cp (by
        rcases List.mem_cons.mp (List.mem_of_getElem? hy) with rfl | h
        · exact hw2
        · exact lets_name y h)
      refine ⟨okPy_str oky, okPy_strs sxs, ?_⟩
      have e : (if true = true then !(D.pyL (xs.map D.str)).any fun z => z.eqv (D.str y).py else (D.pyL (xs.map D.str)).any fun z => z.eqv (D.str y).py) = !xs.contains y := by
        rw [if_pos rfl, ← mem_strs]
        rfl
      rw [e]
      refine ⟨_, rfl, ?_⟩
      cases hc : xs.contains y with
      | true =>
        rw [Bool.not_true, if_neg Bool.false_ne_true]
        exact ⟨by rw [take_snoc hy, List.filter_append, List.filter_cons_of_neg (by rw [hc]; decide), List.filter_nil, List.append_nil], _, rfl⟩
      | false =>
        rw [Bool.not_false, if_pos rfl]
        walk_at "x"
        exact ⟨by rw [take_snoc hy, List.filter_append, List.filter_cons_of_pos (by rw [hc]; rfl), List.filter_nil, List.map_append]; rfl, _, rfl⟩
    rintro acc e ⟨rfl, z7, rfl⟩
    rw [show ([D.str w2] ++ lets.map D.str).length = (w2 :: lets).length by rw [List.length_append, List.length_map, List.length_cons]; exact Nat.add_comm 1 _, List.take_length]
    obtain ⟨y, r, hp, yn, yb⟩ := pick (xs := xs) (by omega) w2 hw2
    rw [hp]
    walk_at "x"
    refine x_ixL (d := .str y) (L2.atI_nat (xs := (y :: r).map D.str) (j := 0) rfl) ?_
    walk_at "x"
    refine x_appE rfl (by rw [List.length_map]; omega) ?_
    walk_at "x"
    refine ⟨o4, xs ++ [y], _, _, _, _, _, u4.mono (by omega), by rw [List.length_append, hlen]; rfl, fun x h => ?_, List.nodup_append.mpr ⟨nd, List.pairwise_singleton _ _, fun a ha b hb e => ?_⟩, by rw [List.map_append]; rfl⟩
    · rcases List.mem_append.mp h with h | h
      · exact hx x h
      · rw [List.mem_singleton.mp h]
        exact yb
    · rw [List.mem_singleton.mp hb] at e
      exact yn (e ▸ ha)
  · rintro e ⟨o1, xs, x4, x5, x6, x7, x8, u1, hlen, hx, nd, rfl⟩
    rw [List.length_map, List.length_range] at hlen u1
    walk_at "x"
    refine ⟨_, _, rfl, rfl, nofun, Nat.le_of_ble_eq_true rfl, o1, rfl, ?_⟩
    exact q xs o1 (by omega) hx nd (u1.mono (by omega))

end
end K80

namespace K80
open PySem PySem.Spec PyProof.Rows L2 Lk Evl Fx


local macro_rules | `(tactic| walk_at "sz") => `(tactic| first
  | exact Nat.le_of_ble_eq_true rfl
  | assumption
  | exact small_sz (Nat.le_of_ble_eq_true rfl)
  | (simp only [List.length_cons, List.length_nil, List.length_map, List.length_append]; first | omega | exact small_sz (by omega)))
local macro_rules | `(tactic| walk_at "x1") => `(tactic| first
  | with_reducible refine x_seq ?_
  | (with_reducible show wVar _ _ _); first | refine x_varF rfl ?_ | refine x_varO rfl ?_ | refine x_varV rfl ?_
  | with_reducible refine x_c ?_
  | with_reducible refine x_exf ?_
  | with_reducible refine x_excd ?_
  | (with_reducible show ∃ d1, Sl.cd (Sl.vw _) = some d1 ∧ _); refine x_excV rfl ?_
  | (with_reducible show ∃ d1, Sl.cd (Sl.own _) = some d1 ∧ _); refine x_excO rfl ?_
  | with_reducible refine x_binP ?_
  | with_reducible refine x_bin ?_
  | with_reducible refine x_adC ?_
  | with_reducible refine x_adN ?_
  | with_reducible refine x_lst ?_
  | with_reducible refine x_tup ?_
  | with_reducible refine x_lstO ?_
  | (with_reducible refine x_and (p := _ ≤ sizeLine) ?h ?_); (case h => walk_at "sz")
  | with_reducible refine x_callF ?_
  | with_reducible refine x_callL ?_
  | with_reducible refine x_listO ?_
  | with_reducible refine x_dstar ?_
  | with_reducible refine x_getN ?_
  | with_reducible refine x_ss ?_
  | with_reducible refine x_mulO ?_
  | with_reducible refine x_iZM ?_
  | (with_reducible show wCallU _ _ _ _ _); refine x_callU rfl ?_
  | with_reducible refine x_callV ?_
  | with_reducible refine x_join ?_
  | with_reducible refine x_waD ?_
  | with_reducible refine x_lc ?_
  | with_reducible refine x_lc2 ?_
  | with_reducible refine x_lenSets ?_
  | (with_reducible show wApp _ _ _ _); refine x_app rfl ?_
  | (with_reducible show wBinV _ _ _ _ _); refine x_binV rfl ?_
  | (with_reducible show wPopD _ _ _ _); refine x_popD rfl ?_
  | (with_reducible show wCatV _ _ _ _); refine x_catV rfl ?_
  | with_reducible refine x_slN2 ?_
  | with_reducible refine x_sortedSets ?_
  | with_reducible refine x_tplL ?_
  | with_reducible refine x_tplT ?_
  | with_reducible refine x_isB ?_
  | with_reducible refine x_r1 ?_
  | with_reducible refine x_r2 ?_
  | (with_reducible refine x_r1e ?h0 ?h1 ?_); (case h0 => omega); (case h1 => omega)
  | with_reducible refine x_iL ?_
  | with_reducible refine x_iT ?_
  | with_reducible refine x_iS ?_
  | with_reducible refine x_iE ?_
  | with_reducible refine x_iEe ?_
  | with_reducible refine x_yes ?_
  | with_reducible refine x_for ?_
  | (with_reducible show wLot _ [D.int _] _); (refine' x_lot (by assumption) ?h1 ?h2 ?h3 ?_); (case h1 => omega); (case h2 => first | decide | omega); (case h3 => first | decide | omega)
  | (with_reducible show ∃ o, _ = some (some (Sl.own o)) ∧ _); refine x_exO rfl ?_
  | with_reducible refine x_exo ?_
  | with_reducible refine x_ret ?_
  | with_reducible refine x_set ?_
  | with_reducible refine x_fin ?_
  | with_reducible refine x_fino ?_
  | (with_reducible refine x_and (p := _ < List.length _) ?h ?_); (case h => exact Nat.le_of_ble_eq_true rfl); (try dsimp only [List.set_cons_succ, List.set_cons_zero])
  | with_reducible refine x_next ?_
  | with_reducible refine x_retN ?_
  | with_reducible refine x_drop ?_
  | with_reducible refine x_asg ?_
  | (with_reducible refine x_gtp ?h ?_); (case h => rfl)
  | with_reducible refine x_gcons ?_
  | with_reducible refine x_gnil ?_
  | (with_reducible refine x_gn ?h ?_); (case h => exact Nat.le_of_ble_eq_true rfl); (try dsimp only [List.set_cons_succ, List.set_cons_zero])
  | with_reducible refine x_ifS ?_
  | with_reducible refine x_if ?_
  | with_reducible refine x_itT ?_
  | with_reducible refine x_itF ?_
  | with_reducible refine x_iteN ?_
  | with_reducible refine x_tru ?_
  | with_reducible refine x_tB ?_
  | with_reducible refine x_dtB ?_
  | with_reducible refine x_dtN ?_
  | with_reducible refine x_exb ?_
  | with_reducible refine x_exdb ?_
  | with_reducible refine x_tand ?_
  | with_reducible refine x_tor ?_
  | with_reducible refine x_tnot ?_
  | with_reducible refine x_and2 ?_
  | with_reducible refine x_or2 ?_
  | with_reducible refine x_not2 ?_
  | with_reducible refine x_chain ?_
  | with_reducible refine x_sub ?_
  | with_reducible refine x_addI ?_
  | (with_reducible refine x_addS ?h ?_); (case h => walk_at "sz")
  | (with_reducible refine x_addL ?h ?_); (case h => walk_at "sz")
  | (with_reducible refine x_addT ?h ?_); (case h => walk_at "sz")
  | with_reducible refine x_lt ?_
  | with_reducible refine x_le ?_
  | with_reducible refine x_gt ?_
  | with_reducible refine x_ge ?_
  | with_reducible refine x_ltS ?_
  | with_reducible refine x_eqI ?_
  | with_reducible refine x_neI ?_
  | with_reducible refine x_allSg ?_
  | with_reducible refine x_m0 ?_
  | with_reducible refine x_lstT ?_
  | with_reducible refine x_lstL ?_
  | with_reducible refine x_strB ?_
  | with_reducible refine x_strN ?_
  | with_reducible refine x_strS ?_
  | with_reducible refine x_isT ?_
  | with_reducible refine x_isI ?_
  | with_reducible refine x_neg ?_
  | with_reducible refine x_un ?_
  | (with_reducible refine x_pow ?h ?_); (case h => exact ⟨by decide, by decide +kernel⟩)
  | (with_reducible refine x_mod ?h ?_); (case h => first | decide | omega)
  | (with_reducible refine x_mul ?h ?_); (case h => exact mul_ok (by first | decide | omega) (by first | decide | omega))
  | (with_reducible refine x_div ?h ?_); (case h => exact div_ok (by first | decide | omega) (by first | decide | omega))
  | with_reducible refine x_ipA ?_
  | (with_reducible show wAugL _ _ _ _ _ _); refine x_augL rfl ?_
  | (with_reducible show wAug _ _ _ _ _); refine x_aug rfl ?_
  | (with_reducible show ∃ k' ds d, Sl.f (D.int _) = Sl.f (D.int k') ∧ _); refine x_augL1 rfl (by decide) rfl ?_
  | (with_reducible show ∃ k' j ds, Sl.f (D.int _) = Sl.f (D.int k') ∧ _ = some (some (Sl.own (O.lst ds))) ∧ ixN _ k' = some j ∧ _); refine x_setL1 rfl rfl ?_; (try dsimp only [List.set_cons_succ, List.set_cons_zero])
  | (with_reducible show ∃ ds j, _ = some (some (Sl.own (O.lst ds))) ∧ ixN _ _ = some j ∧ _); refine x_augL2 rfl rfl ?_; (try dsimp only [List.set_cons_succ, List.set_cons_zero])
  | (with_reducible show gSetL _ _ _ _ _); refine x_setL rfl ?_
  | (with_reducible show dIx (D.lst _) (D.int _) _); refine x_ixL rfl ?_
  | (with_reducible show dIx (D.tup _) (D.int _) _); refine x_ixT rfl ?_
  | with_reducible refine x_cb ?_
  | (with_reducible show wCB1 _ _ _ _); refine x_cb1 rfl rfl ?_
  | with_reducible refine x_fm ?_
  | with_reducible refine x_exl ?_
  | with_reducible refine x_ext ?_
  | with_reducible refine x_exs ?_
  | with_reducible refine x_exi ?_
  | with_reducible refine x_sl ?_
  | with_reducible refine x_slN ?_
  | with_reducible refine x_slS ?_
  | with_reducible refine x_frz ?_
  | with_reducible refine x_frL ?_
  | with_reducible refine x_revT ?_
  | with_reducible refine x_revL ?_
  | with_reducible refine x_splitO ?_
  | (with_reducible show wSlO _ _ _ _ _); refine x_slO rfl ?_
  | (with_reducible show ∃ ds2, _ = some (some (Sl.own (O.lst ds2))) ∧ _); refine x_exOl rfl ?_
  | with_reducible refine x_dictO ?_
  | with_reducible refine x_psC ?_
  | with_reducible refine x_psN ?_
  | with_reducible refine x_get ?_
  | (with_reducible show gSetSl _ _ _ _ _ _); refine x_setSl rfl ?_
  | with_reducible refine x_split ?_
  | with_reducible refine x_isN1 ?_
  | with_reducible refine x_isN0 rfl ?_
  | with_reducible refine x_iZ ?_
  | with_reducible refine x_zT ?_
  | with_reducible refine x_zL ?_
  | with_reducible refine x_stp ?_
  | with_reducible refine x_js ?_
  | with_reducible refine x_jsC ?_
  | with_reducible refine x_jsN ?_
  | with_reducible refine x_fmt ?_
  | with_reducible refine x_callFX ?_
  | (with_reducible refine x_glp ?h ?_); (case h => rfl)
  | with_reducible refine x_raiseR ?_
  | with_reducible refine x_row ?_
  | with_reducible refine x_lenL ?_
  | with_reducible refine x_lenT ?_
  | with_reducible refine x_lenD ?_
  | (with_reducible refine x_lenS ?h ?_); (case h => walk_at "sz")
  | with_reducible refine x_max ?_
  | with_reducible refine x_min ?_
  | with_reducible refine x_intI ?_
  | with_reducible refine x_intB ?_
  | (with_reducible refine x_isInt ?h ?_); (case h => first | assumption | exact part_ty (by assumption) | (intro _ hh; cases hh; done))
  | (with_reducible refine x_isBl ?h ?_); (case h => first | assumption | exact part_ty (by assumption) | (intro _ hh; cases hh; done))
  | (with_reducible refine x_isStr ?h ?_); (case h => first | assumption | exact part_ty (by assumption) | (intro _ hh; cases hh; done))
  | (with_reducible refine x_isTup ?h ?_); (case h => first | assumption | exact part_ty (by assumption) | (intro _ hh; cases hh; done))
  | (with_reducible refine x_isLst ?h ?_); (case h => first | assumption | exact part_ty (by assumption) | (intro _ hh; cases hh; done))
  | (with_reducible refine x_isDic ?h ?_); (case h => first | assumption | exact part_ty (by assumption) | (intro _ hh; cases hh; done))
  | (with_reducible refine x_itTe ?e ?_); (case e => rfl)
  | (with_reducible refine x_itFe ?e ?_); (case e => rfl)
  | with_reducible refine x_dnewO ?_
  | with_reducible refine x_dput ?_
  | with_reducible refine x_dix ?_
  | with_reducible refine x_sortedD ?_
  | with_reducible refine x_star ?_
  | with_reducible refine x_starT ?_
  | with_reducible refine x_frzD ?_
  | with_reducible refine x_sw ?_
  | with_reducible refine x_cnt ?_
  | with_reducible refine x_waC ?_
  | with_reducible refine x_waN ?_
  | with_reducible refine x_lenDD ?_
  | with_reducible refine x_allX ?_
  | (with_reducible show wFz _ _ _ _); refine x_fz rfl ?_
  | (with_reducible show wFzS _ _ _ _); refine x_fzS rfl ?_
  | (with_reducible show wFzO _ _ _ _); refine x_fzO rfl ?_
  | (with_reducible show wiK _ _ _); refine x_iK rfl ?_
  | (with_reducible show wiIt _ _ _); refine x_iIt rfl ?_
  | with_reducible refine x_iE1 ?_
  | with_reducible refine x_forR ?_
  | (with_reducible show wDIxV _ _ _ _); refine x_dixV rfl (cd_dicO _) ?_
  | (with_reducible show wDPop _ _ _ _); refine x_dpop rfl ?_
  | with_reducible refine x_pickO ?_
  | (with_reducible show wExt _ _ _ _); refine x_extO rfl ?_
  | with_reducible refine x_sortedR ?_
  | with_reducible refine x_sortedL ?_
  | with_reducible refine x_ixSt ?_
  | (with_reducible show wiVal _ _ _); refine x_iVal rfl ?_
  | with_reducible refine x_dictP ?_
  | with_reducible refine x_dictZip ?_
  | with_reducible refine x_revS ?_
  | with_reducible refine x_par ?_
  | (with_reducible show wIsiV _ _ _ _ _); refine x_isiV rfl ?_
  | ((with_reducible show _ ∧ _); refine And.intro (Nat.le_of_ble_eq_true rfl) ?_))
local macro_rules | `(tactic| walk_at "x") => `(tactic| repeat (walk_at "x1"))

section
variable {P : Program} {w : World} {K : PySem.W.Frag} {mg : Str → Option Value} {base : Heap} {tabs : List Addr}
/-! ### trusts, rows -/
structure Ti where
  (a b : Str) (s u : Int)
def Ti.d (t : Ti) : D := .tup [.str t.a, .str t.b, .int t.s, .int t.u]
structure Ti.Ok (t : Ti) : Prop where
  a : nameB (.str t.a) = true
  b : nameB (.str t.b) = true
  ab : t.a ≠ t.b
  s0 : 0 ≤ t.s
  su : t.s < t.u
  u1 : t.u ≤ 1000000
structure Wi where
  (a : Str) (p : D) (s u : Int)
def Wi.d (x : Wi) : D := .tup [.str x.a, x.p, .int x.s, .int x.u]
structure Wi.Ok (x : Wi) : Prop where
  a : nameB (.str x.a) = true
  p : x.p ∈ allDeeds
  s0 : 0 ≤ x.s
  su : x.s < x.u
  u1 : x.u ≤ 1000000
def trustD (oo : Str) (ts : List Ti) (xs : List Wi) : D := .tup [.str oo, .tup (ts.map Ti.d), .tup (xs.map Wi.d)]
structure TrOk (oo : Str) (ts : List Ti) (xs : List Wi) : Prop where
  hoo : nameB (.str oo) = true
  hts : ∀ t ∈ ts, t.Ok
  tl : ts.length ≤ 20
  hxs : ∀ x ∈ xs, x.Ok
  x1 : 1 ≤ xs.length
  x6 : xs.length ≤ 6
  nd : (xs.map (·.a)).Nodup
  no : ∀ x ∈ xs, x.a ≠ oo
/-- a row of the right kinds -/
structure Rw where
  (g h : Str) (p : D) (s u k : Int)
def deeds4 : List D := [.tup [.str "look"], .tup [.str "set"], .tup [.str "look", .str "set"], .tup [.str "set", .str "look"]]
def deedsL : D → List D
  | .tup ds => ds
  | _ => []
theorem deeds4_tup : ∀ {d : D}, d ∈ deeds4 → d = .tup (deedsL d) ∧ (∀ x ∈ deedsL d, okPy x = true) ∧ okPy (.tup (deedsL d)) = true ∧ (deedsL d).length ≤ 2 ∧ szB d = true := by
  intro d h
  rcases List.mem_cons.mp h with rfl | h
  · exact ⟨rfl, (by decide +kernel : ∀ x ∈ [D.str "look"], okPy x = true), (by decide +kernel : okPy (.tup [.str "look"]) = true), by decide, rfl⟩
  rcases List.mem_cons.mp h with rfl | h
  · exact ⟨rfl, (by decide +kernel : ∀ x ∈ [D.str "set"], okPy x = true), (by decide +kernel : okPy (.tup [.str "set"]) = true), by decide, rfl⟩
  rcases List.mem_cons.mp h with rfl | h
  · exact ⟨rfl, (by decide +kernel : ∀ x ∈ [D.str "look", D.str "set"], okPy x = true), (by decide +kernel : okPy (.tup [.str "look", .str "set"]) = true), by decide, rfl⟩
  obtain rfl := List.mem_singleton.mp h
  exact ⟨rfl, (by decide +kernel : ∀ x ∈ [D.str "set", D.str "look"], okPy x = true), (by decide +kernel : okPy (.tup [.str "set", .str "look"]) = true), by decide, rfl⟩
theorem deeds_four {d : D} (h : d ∈ allDeeds) : d ∈ deeds4 := by
  rcases List.mem_cons.mp h with rfl | h
  · exact List.mem_cons_self ..
  rcases List.mem_cons.mp h with rfl | h
  · exact List.mem_cons_of_mem _ (List.mem_cons_self ..)
  rw [List.mem_singleton.mp h]
  exact List.mem_cons_of_mem _ (List.mem_cons_of_mem _ (List.mem_cons_self ..))
theorem x_any {bs : List Bool} {Q : D → Prop} (h : Q (.bl (bs.any id))) : cAny [.lst (bs.map D.bl)] Q := ⟨bs, rfl, h⟩
/-! ### ties, givers, wishes -/
def hitT (r : Rw) (t : Ti) : Bool := (t.a == r.g) && (t.b == r.h)
def inT (r : Rw) (t : Ti) : Bool := decide (t.s ≤ r.s) && decide (r.u ≤ t.u)
def tieV (ts : List Ti) (r : Rw) : Bool := (ts.filter (hitT r)).any (inT r)
theorem pair_ok {x y : Str} (h : PyData.strOk x = true) (g : PyData.strOk y = true) : okPy (.tup [.str x, .str y]) = true := by
  simp [okPy, SeqAt.shaped, D.py, D.pyL, PyData.canLay0, PyData.canLayAll0, PyData.depth, PyData.depthAll, h, g]
theorem eqB_pair {x y o a : Str} : eqB (.tup [.str x, .str y]) (.tup [.str o, .str a]) = ((x == o) && (y == a)) := by
  show PyData.eqv (.tuple [.str x, .str y]) (.tuple [.str o, .str a]) = _
  simp [PyData.eqv, PyData.eqvAll]
/-! ### which leaves lie within which -/
end
end K80

namespace K80
open PySem PySem.Spec PyProof.Rows L2 Lk Evl Fx


local macro_rules | `(tactic| walk_at "sz") => `(tactic| first
  | exact Nat.le_of_ble_eq_true rfl
  | assumption
  | exact small_sz (Nat.le_of_ble_eq_true rfl)
  | (simp only [List.length_cons, List.length_nil, List.length_map, List.length_append]; first | omega | exact small_sz (by omega)))
local macro_rules | `(tactic| walk_at "x1") => `(tactic| first
  | with_reducible refine x_seq ?_
  | (with_reducible show wVar _ _ _); first | refine x_varF rfl ?_ | refine x_varO rfl ?_ | refine x_varV rfl ?_
  | with_reducible refine x_c ?_
  | with_reducible refine x_exf ?_
  | with_reducible refine x_excd ?_
  | (with_reducible show ∃ d1, Sl.cd (Sl.vw _) = some d1 ∧ _); refine x_excV rfl ?_
  | (with_reducible show ∃ d1, Sl.cd (Sl.own _) = some d1 ∧ _); refine x_excO rfl ?_
  | with_reducible refine x_binP ?_
  | with_reducible refine x_bin ?_
  | with_reducible refine x_adC ?_
  | with_reducible refine x_adN ?_
  | with_reducible refine x_lst ?_
  | with_reducible refine x_tup ?_
  | with_reducible refine x_lstO ?_
  | (with_reducible refine x_and (p := _ ≤ sizeLine) ?h ?_); (case h => walk_at "sz")
  | with_reducible refine x_callF ?_
  | with_reducible refine x_callL ?_
  | with_reducible refine x_listO ?_
  | with_reducible refine x_dstar ?_
  | with_reducible refine x_getN ?_
  | with_reducible refine x_ss ?_
  | with_reducible refine x_mulO ?_
  | with_reducible refine x_iZM ?_
  | (with_reducible show wCallU _ _ _ _ _); refine x_callU rfl ?_
  | with_reducible refine x_callV ?_
  | with_reducible refine x_join ?_
  | with_reducible refine x_waD ?_
  | with_reducible refine x_lc ?_
  | with_reducible refine x_lc2 ?_
  | with_reducible refine x_lenSets ?_
  | (with_reducible show wApp _ _ _ _); refine x_app rfl ?_
  | (with_reducible show wBinV _ _ _ _ _); refine x_binV rfl ?_
  | (with_reducible show wPopD _ _ _ _); refine x_popD rfl ?_
  | (with_reducible show wCatV _ _ _ _); refine x_catV rfl ?_
  | with_reducible refine x_slN2 ?_
  | with_reducible refine x_sortedSets ?_
  | with_reducible refine x_tplL ?_
  | with_reducible refine x_tplT ?_
  | with_reducible refine x_isB ?_
  | with_reducible refine x_r1 ?_
  | with_reducible refine x_r2 ?_
  | (with_reducible refine x_r1e ?h0 ?h1 ?_); (case h0 => omega); (case h1 => omega)
  | with_reducible refine x_iL ?_
  | with_reducible refine x_iT ?_
  | with_reducible refine x_iS ?_
  | with_reducible refine x_iE ?_
  | with_reducible refine x_iEe ?_
  | with_reducible refine x_yes ?_
  | with_reducible refine x_for ?_
  | (with_reducible show wLot _ [D.int _] _); (refine' x_lot (by assumption) ?h1 ?h2 ?h3 ?_); (case h1 => omega); (case h2 => first | decide | omega); (case h3 => first | decide | omega)
  | (with_reducible show ∃ o, _ = some (some (Sl.own o)) ∧ _); refine x_exO rfl ?_
  | with_reducible refine x_exo ?_
  | with_reducible refine x_ret ?_
  | with_reducible refine x_set ?_
  | with_reducible refine x_fin ?_
  | with_reducible refine x_fino ?_
  | (with_reducible refine x_and (p := _ < List.length _) ?h ?_); (case h => exact Nat.le_of_ble_eq_true rfl); (try dsimp only [List.set_cons_succ, List.set_cons_zero])
  | with_reducible refine x_next ?_
  | with_reducible refine x_retN ?_
  | with_reducible refine x_drop ?_
  | with_reducible refine x_asg ?_
  | (with_reducible refine x_gtp ?h ?_); (case h => rfl)
  | with_reducible refine x_gcons ?_
  | with_reducible refine x_gnil ?_
  | (with_reducible refine x_gn ?h ?_); (case h => exact Nat.le_of_ble_eq_true rfl); (try dsimp only [List.set_cons_succ, List.set_cons_zero])
  | with_reducible refine x_ifS ?_
  | with_reducible refine x_if ?_
  | with_reducible refine x_itT ?_
  | with_reducible refine x_itF ?_
  | with_reducible refine x_iteN ?_
  | with_reducible refine x_tru ?_
  | with_reducible refine x_tB ?_
  | with_reducible refine x_dtB ?_
  | with_reducible refine x_dtN ?_
  | with_reducible refine x_exb ?_
  | with_reducible refine x_exdb ?_
  | with_reducible refine x_tand ?_
  | with_reducible refine x_tor ?_
  | with_reducible refine x_tnot ?_
  | with_reducible refine x_and2 ?_
  | with_reducible refine x_or2 ?_
  | with_reducible refine x_not2 ?_
  | with_reducible refine x_chain ?_
  | with_reducible refine x_sub ?_
  | with_reducible refine x_addI ?_
  | (with_reducible refine x_addS ?h ?_); (case h => walk_at "sz")
  | (with_reducible refine x_addL ?h ?_); (case h => walk_at "sz")
  | (with_reducible refine x_addT ?h ?_); (case h => walk_at "sz")
  | with_reducible refine x_lt ?_
  | with_reducible refine x_le ?_
  | with_reducible refine x_gt ?_
  | with_reducible refine x_ge ?_
  | with_reducible refine x_ltS ?_
  | with_reducible refine x_eqI ?_
  | with_reducible refine x_neI ?_
  | with_reducible refine x_allSg ?_
  | with_reducible refine x_m0 ?_
  | with_reducible refine x_lstT ?_
  | with_reducible refine x_lstL ?_
  | with_reducible refine x_strB ?_
  | with_reducible refine x_strN ?_
  | with_reducible refine x_strS ?_
  | with_reducible refine x_isT ?_
  | with_reducible refine x_isI ?_
  | with_reducible refine x_neg ?_
  | with_reducible refine x_un ?_
  | (with_reducible refine x_pow ?h ?_); (case h => exact ⟨by decide, by decide +kernel⟩)
  | (with_reducible refine x_mod ?h ?_); (case h => first | decide | omega)
  | (with_reducible refine x_mul ?h ?_); (case h => exact mul_ok (by first | decide | omega) (by first | decide | omega))
  | (with_reducible refine x_div ?h ?_); (case h => exact div_ok (by first | decide | omega) (by first | decide | omega))
  | with_reducible refine x_ipA ?_
  | (with_reducible show wAugL _ _ _ _ _ _); refine x_augL rfl ?_
  | (with_reducible show wAug _ _ _ _ _); refine x_aug rfl ?_
  | (with_reducible show ∃ k' ds d, Sl.f (D.int _) = Sl.f (D.int k') ∧ _); refine x_augL1 rfl (by decide) rfl ?_
  | (with_reducible show ∃ k' j ds, Sl.f (D.int _) = Sl.f (D.int k') ∧ _ = some (some (Sl.own (O.lst ds))) ∧ ixN _ k' = some j ∧ _); refine x_setL1 rfl rfl ?_; (try dsimp only [List.set_cons_succ, List.set_cons_zero])
  | (with_reducible show ∃ ds j, _ = some (some (Sl.own (O.lst ds))) ∧ ixN _ _ = some j ∧ _); refine x_augL2 rfl rfl ?_; (try dsimp only [List.set_cons_succ, List.set_cons_zero])
  | (with_reducible show gSetL _ _ _ _ _); refine x_setL rfl ?_
  | (with_reducible show dIx (D.lst _) (D.int _) _); refine x_ixL rfl ?_
  | (with_reducible show dIx (D.tup _) (D.int _) _); refine x_ixT rfl ?_
  | with_reducible refine x_cb ?_
  | (with_reducible show wCB1 _ _ _ _); refine x_cb1 rfl rfl ?_
  | with_reducible refine x_fm ?_
  | with_reducible refine x_exl ?_
  | with_reducible refine x_ext ?_
  | with_reducible refine x_exs ?_
  | with_reducible refine x_exi ?_
  | with_reducible refine x_sl ?_
  | with_reducible refine x_slN ?_
  | with_reducible refine x_slS ?_
  | with_reducible refine x_frz ?_
  | with_reducible refine x_frL ?_
  | with_reducible refine x_revT ?_
  | with_reducible refine x_revL ?_
  | with_reducible refine x_splitO ?_
  | (with_reducible show wSlO _ _ _ _ _); refine x_slO rfl ?_
  | (with_reducible show ∃ ds2, _ = some (some (Sl.own (O.lst ds2))) ∧ _); refine x_exOl rfl ?_
  | with_reducible refine x_dictO ?_
  | with_reducible refine x_psC ?_
  | with_reducible refine x_psN ?_
  | with_reducible refine x_get ?_
  | (with_reducible show gSetSl _ _ _ _ _ _); refine x_setSl rfl ?_
  | with_reducible refine x_split ?_
  | with_reducible refine x_isN1 ?_
  | with_reducible refine x_isN0 rfl ?_
  | with_reducible refine x_iZ ?_
  | with_reducible refine x_zT ?_
  | with_reducible refine x_zL ?_
  | with_reducible refine x_stp ?_
  | with_reducible refine x_js ?_
  | with_reducible refine x_jsC ?_
  | with_reducible refine x_jsN ?_
  | with_reducible refine x_fmt ?_
  | with_reducible refine x_callFX ?_
  | (with_reducible refine x_glp ?h ?_); (case h => rfl)
  | with_reducible refine x_raiseR ?_
  | with_reducible refine x_row ?_
  | with_reducible refine x_lenL ?_
  | with_reducible refine x_lenT ?_
  | with_reducible refine x_lenD ?_
  | (with_reducible refine x_lenS ?h ?_); (case h => walk_at "sz")
  | with_reducible refine x_max ?_
  | with_reducible refine x_min ?_
  | with_reducible refine x_intI ?_
  | with_reducible refine x_intB ?_
  | (with_reducible refine x_isInt ?h ?_); (case h => first | assumption | exact part_ty (by assumption) | (intro _ hh; cases hh; done))
  | (with_reducible refine x_isBl ?h ?_); (case h => first | assumption | exact part_ty (by assumption) | (intro _ hh; cases hh; done))
  | (with_reducible refine x_isStr ?h ?_); (case h => first | assumption | exact part_ty (by assumption) | (intro _ hh; cases hh; done))
  | (with_reducible refine x_isTup ?h ?_); (case h => first | assumption | exact part_ty (by assumption) | (intro _ hh; cases hh; done))
  | (with_reducible refine x_isLst ?h ?_); (case h => first | assumption | exact part_ty (by assumption) | (intro _ hh; cases hh; done))
  | (with_reducible refine x_isDic ?h ?_); (case h => first | assumption | exact part_ty (by assumption) | (intro _ hh; cases hh; done))
  | (with_reducible refine x_itTe ?e ?_); (case e => rfl)
  | (with_reducible refine x_itFe ?e ?_); (case e => rfl)
  | with_reducible refine x_dnewO ?_
  | with_reducible refine x_dput ?_
  | with_reducible refine x_dix ?_
  | with_reducible refine x_sortedD ?_
  | with_reducible refine x_star ?_
  | with_reducible refine x_starT ?_
  | with_reducible refine x_frzD ?_
  | with_reducible refine x_sw ?_
  | with_reducible refine x_cnt ?_
  | with_reducible refine x_waC ?_
  | with_reducible refine x_waN ?_
  | with_reducible refine x_lenDD ?_
  | with_reducible refine x_allX ?_
  | (with_reducible show wFz _ _ _ _); refine x_fz rfl ?_
  | (with_reducible show wFzS _ _ _ _); refine x_fzS rfl ?_
  | (with_reducible show wFzO _ _ _ _); refine x_fzO rfl ?_
  | (with_reducible show wiK _ _ _); refine x_iK rfl ?_
  | (with_reducible show wiIt _ _ _); refine x_iIt rfl ?_
  | with_reducible refine x_iE1 ?_
  | with_reducible refine x_forR ?_
  | (with_reducible show wDIxV _ _ _ _); refine x_dixV rfl (cd_dicO _) ?_
  | (with_reducible show wDPop _ _ _ _); refine x_dpop rfl ?_
  | with_reducible refine x_pickO ?_
  | (with_reducible show wExt _ _ _ _); refine x_extO rfl ?_
  | with_reducible refine x_sortedR ?_
  | with_reducible refine x_sortedL ?_
  | with_reducible refine x_ixSt ?_
  | (with_reducible show wiVal _ _ _); refine x_iVal rfl ?_
  | with_reducible refine x_dictP ?_
  | with_reducible refine x_dictZip ?_
  | with_reducible refine x_revS ?_
  | with_reducible refine x_par ?_
  | (with_reducible show wIsiV _ _ _ _ _); refine x_isiV rfl ?_
  | ((with_reducible show _ ∧ _); refine And.intro (Nat.le_of_ble_eq_true rfl) ?_))
local macro_rules | `(tactic| walk_at "x") => `(tactic| repeat (walk_at "x1"))

section
variable {P : Program} {w : World} {K : PySem.W.Frag} {mg : Str → Option Value} {base : Heap} {tabs : List Addr}
/-! ### trusts, made -/
def TieIn (ns : List Str) (t : D) : Prop := ∃ (a b : Str) (s u : Int), t = .tup [.str a, .str b, .int s, .int u] ∧ a ∈ ns ∧ b ∈ ns ∧ a ≠ b ∧ 0 ≤ s ∧ s < u ∧ u ≤ 1000000
def WishIn (ns : List Str) (t : D) : Prop := ∃ (a : Str) (p : D) (s u : Int), t = .tup [.str a, p, .int s, .int u] ∧ a ∈ ns ∧ p ∈ allDeeds ∧ 0 ≤ s ∧ s < u ∧ u ≤ 1000000
section
variable {ns : List Str} {t : D} {o : Str}
end
theorem pop_perm {l : List Str} {i : Nat} {y : Str} (h : l[i]? = some y) : (y :: l.eraseIdx i).Perm l := by
  obtain ⟨hi, rfl⟩ := List.getElem?_eq_some_iff.mp h
  rw [List.eraseIdx_eq_take_drop_succ]
  refine List.perm_middle.symm.trans ?_
  rw [← List.drop_eq_getElem_cons hi, List.take_append_drop]
theorem wi_of {ns : List Str} (hn : ∀ x ∈ ns, nameB (.str x) = true) : ∀ {ws : List D}, (∀ t ∈ ws, WishIn ns t) → ∃ xs : List Wi, ws = xs.map Wi.d ∧ ∀ x ∈ xs, x.Ok ∧ x.a ∈ ns
  | [], _ => ⟨[], rfl, nofun⟩
  | t :: ws, h => by
    obtain ⟨xs, e, ok⟩ := wi_of hn fun t ht => h t (List.mem_cons_of_mem _ ht)
    obtain ⟨a, p, s, u, et, ha, hp, h0, h1, h2⟩ := h t (List.mem_cons_self ..)
    exact ⟨⟨a, p, s, u⟩ :: xs, by rw [et, e]; rfl, List.forall_mem_cons.mpr ⟨⟨⟨hn a ha, hp, h0, h1, h2⟩, ha⟩, ok⟩⟩
theorem ti_of {ns : List Str} (hn : ∀ x ∈ ns, nameB (.str x) = true) : ∀ {ts : List D}, (∀ t ∈ ts, TieIn ns t) → ∃ tis : List Ti, ts = tis.map Ti.d ∧ ∀ t ∈ tis, t.Ok ∧ t.a ∈ ns ∧ t.b ∈ ns
  | [], _ => ⟨[], rfl, nofun⟩
  | t :: ts, h => by
    obtain ⟨tis, e, ok⟩ := ti_of hn fun t ht => h t (List.mem_cons_of_mem _ ht)
    obtain ⟨a, b, s, u, et, ha, hb, ne, h0, h1, h2⟩ := h t (List.mem_cons_self ..)
    exact ⟨⟨a, b, s, u⟩ :: tis, by rw [et, e]; rfl, List.forall_mem_cons.mpr ⟨⟨⟨hn a ha, hn b hb, ne, h0, h1, h2⟩, ha, hb⟩, ok⟩⟩
theorem wi_names (xs : List Wi) : (xs.map Wi.d).map nm0 = xs.map (·.a) := by rw [List.map_map]; rfl
/-- names that a trust's names are among -/
def Among (ns : List Str) (ts : List Ti) (xs : List Wi) : Prop := (∀ t ∈ ts, t.a ∈ ns ∧ t.b ∈ ns) ∧ ∀ x ∈ xs, x.a ∈ ns
def wTrustG : WUn := fun o ds Q => ∃ (n : Nat) (m : Int), ds = [.int m] ∧ Un o n ∧ n + 1000 ≤ 100000 ∧ 1 ≤ m ∧ m ≤ 5 ∧ ∀ (oo : Str) (ts : List Ti) (xs : List Wi) (ns : List Str) o', TrOk oo ts xs → Among (oo :: ns) ts xs → (ns.length : Int) ≤ m → ns.Nodup → oo ∉ ns → Un o' (n + 1000) → Q (.f (trustD oo ts xs)) o'
theorem mono__law_trust : MonoU2 wTrustG := fun o ds Q Q' i ⟨n, m, h1, h2, h3, h4, h5, q⟩ => ⟨n, m, h1, h2, h3, h4, h5, fun oo ts xs ns o' a b c d e f => i _ _ (q oo ts xs ns o' a b c d e f)⟩
theorem rngA_at {a : Int} {k i : Nat} {d : D} (h : ((List.range k).map fun j : Nat => D.int (a + (j : Int)))[i]? = some d) : i < k ∧ d = .int (a + (i : Int)) := by
  rw [List.getElem?_map] at h
  have hi : i < k := by
    rcases Nat.lt_or_ge i k with z | z
    · exact z
    · rw [List.getElem?_eq_none (by rw [List.length_range]; exact z)] at h
      cases h
  rw [List.getElem?_eq_getElem (by rw [List.length_range]; exact hi), List.getElem_range] at h
  cases h
  exact ⟨hi, rfl⟩
theorem ix_name {ns : List Str} {k : Int} {QD : D → Prop} (h0 : 0 ≤ k) (h1 : k < (ns.length : Int)) (h : ∀ y, ns[k.toNat]? = some y → QD (.str y)) : dIx (.lst (ns.map D.str)) (.int k) QD := by
  obtain ⟨d, e1, e2⟩ := atI_at (ds := ns.map D.str) h0 (by rw [List.length_map]; exact h1)
  obtain ⟨y, e3, rfl⟩ := at_map e2
  exact x_ixL e1 (h y e3)
theorem nodup_ne {ns : List Str} (nd : ns.Nodup) {i j : Nat} {a b : Str} (hi : ns[i]? = some a) (hj : ns[j]? = some b) (ne : i ≠ j) : a ≠ b := by
  obtain ⟨h1, rfl⟩ := List.getElem?_eq_some_iff.mp hi
  obtain ⟨h2, rfl⟩ := List.getElem?_eq_some_iff.mp hj
  rcases Nat.lt_or_gt_of_ne ne with l | l
  · exact List.pairwise_iff_getElem.mp nd i j h1 h2 l
  · exact (List.pairwise_iff_getElem.mp nd j i h2 h1 l).symm
theorem way_is {a b c : Int} {d : D} (h : d ∈ [D.int 0, .int a, .int b, .int c]) : ∃ w : Int, d = .int w := by
  rcases List.mem_cons.mp h with rfl | h
  · exact ⟨_, rfl⟩
  rcases List.mem_cons.mp h with rfl | h
  · exact ⟨_, rfl⟩
  rcases List.mem_cons.mp h with rfl | h
  · exact ⟨_, rfl⟩
  exact ⟨_, List.mem_singleton.mp h⟩
theorem tie_snoc {ns ts : List _} {t : D} (h : ∀ t ∈ ts, TieIn ns t) (g : TieIn ns t) : ∀ x ∈ ts ++ [t], TieIn ns x := fun x hx => by
  rcases List.mem_append.mp hx with hx | hx
  · exact h x hx
  · rw [List.mem_singleton.mp hx]
    exact g
theorem wish_snoc {ns ts : List _} {t : D} (h : ∀ t ∈ ts, WishIn ns t) (g : WishIn ns t) : ∀ x ∈ ts ++ [t], WishIn ns x := fun x hx => by
  rcases List.mem_append.mp hx with hx | hx
  · exact h x hx
  · rw [List.mem_singleton.mp hx]
    exact g
theorem turn_ne {a c n : Int} (a0 : 0 ≤ a) (a1 : a < n) (c0 : 0 ≤ c) (c1 : c < n - 1) : ((a + 1 + c) % n).toNat ≠ a.toNat := by
  by_cases h : a + 1 + c < n
  · rw [Int.emod_eq_of_lt (by omega) h]
    omega
  · have e : (a + 1 + c) % n = a + 1 + c - n := by
      have e1 : (a + 1 + c - n + n) % n = (a + 1 + c - n) % n := by simp
      rw [Int.emod_eq_of_lt (b := n) (a := a + 1 + c - n) (by omega) (by omega)] at e1
      rw [← e1]
      congr 1
      omega
    rw [e]
    omega
theorem erase_strs (l : List Str) (i : Nat) : (l.map D.str).eraseIdx i = (l.eraseIdx i).map D.str := by
  rw [List.eraseIdx_eq_take_drop_succ, List.eraseIdx_eq_take_drop_succ, List.map_append, List.map_take, List.map_drop]
theorem ok_trustg (T : Txt K mg) (c__law_draw : Cal P w K mg base 1 "_law_draw" (spW K tabs (liftU wLot))) (c__law_names : Cal P w K mg base 2 "_law_names" (spW K tabs (liftU wNames))) (c__law_span : Cal P w K mg base 2 "_law_span" (spW K tabs (liftU wSpanL)))
    (A : At K mg "_law_trust" s__law_trust ["pool", "most"]) : Cal P w K mg base 3 "_law_trust" (spW K tabs (liftU wTrustG)) := by
  refine A.of fun f fd F => fx_fnU F sc__law_trust (fun o ds Q ⟨n, m, h, _⟩ => by rw [h]; rfl) fun cdv A outer s H E TT P0 σ0 hcd hr => ⟨_, (gss_cons (gs_setE (i := 2) sc__law_trust.nd rfl (Or.inl rfl) (ge_callU c__law_names hr (by first | decide | omega) rfl rfl rfl mono__law_names (pv 0) (gd_cons (ge_op opx_add (GE.of_pure gp_int) (ge_callU c__law_draw hr (by first | decide | omega) rfl rfl rfl mono__law_draw (pv 0) (gd_cons (GE.of_pure (gp_var (pv 1))) gd_nil))) gd_nil)))
      (gss_cons (gs_setE (i := 3) sc__law_trust.nd rfl (Or.inl rfl) (ge_callU c__law_draw hr (by first | decide | omega) rfl rfl rfl mono__law_draw (pv 0) (gd_cons (GE.of_pure gp_int) gd_nil)))
      (gss_cons (gs_setE (i := 4) sc__law_trust.nd rfl (Or.inl rfl) (ge_lstOD gd_nil))
      (gss_cons (gs_for PassesOwn.never rfl (gi_r2 rfl T.z_range (GD.ga (gd_cons (GE.of_pure gp_int) (gd_cons (ge_cbB1 cax_len (by rfl) T.z_len (by decide +kernel) (pv 2)) gd_nil)))) (gg_name (pg_name (i := 5) sc__law_trust.nd rfl (Or.inl rfl)) rfl)
      (gss_one (gs_if (gt_cmp opx_gt (ge_callU c__law_draw hr (by first | decide | omega) rfl rfl rfl mono__law_draw (pv 0) (gd_cons (GE.of_pure gp_int) gd_nil)) (GE.of_pure gp_int) (nomark _))
      (gss_one (gs_append (pv 4) (gd_cons (ge_op opx_add (ge_tupD (gd_cons (ge_ix ixx (GE.of_pure (gp_var (pv 2))) (ge_callU c__law_draw hr (by first | decide | omega) rfl rfl rfl mono__law_draw (pv 0) (gd_cons (GE.of_pure (gp_var (pv 5))) gd_nil)) (fun _ _ => rfl)) (gd_cons (GE.of_pure (gp_ix ixx (gp_var (pv 2)) (gp_var (pv 5)) (fun _ _ => rfl))) gd_nil))) (ge_callU c__law_span hr (by first | decide | omega) rfl rfl rfl mono__law_span (pv 0) (gd_cons (ge_ix ixx (ge_lstD (gd_cons (GE.of_pure gp_int) (gd_cons (GE.of_pure gp_int) (gd_cons (GE.of_pure gp_int) (gd_cons (GE.of_pure (gp_op opx_mod (gp_var (pv 5)) gp_int)) gd_nil))))) (GE.of_pure (gp_var (pv 3))) (fun _ _ => rfl)) gd_nil))) gd_nil)))
      gss_nil)))
      (gss_cons (gs_for PassesOwn.never rfl (gi_r1 rfl T.z_range (GD.ga (gd_cons (ge_callU c__law_draw hr (by first | decide | omega) rfl rfl rfl mono__law_draw (pv 0) (gd_cons (ge_op opx_sub (GE.of_pure gp_int) (ge_cbB1 cax_len (by rfl) T.z_len (by decide +kernel) (pv 4))) gd_nil)) gd_nil))) (gg_name (pg_name (i := 5) sc__law_trust.nd rfl (Or.inl rfl)) rfl)
      (gss_cons (gs_setE (i := 6) sc__law_trust.nd rfl (Or.inl rfl) (ge_callU c__law_draw hr (by first | decide | omega) rfl rfl rfl mono__law_draw (pv 0) (gd_cons (ge_cbB1 cax_len (by rfl) T.z_len (by decide +kernel) (pv 2)) gd_nil)))
      (gss_cons (gs_setE (i := 7) sc__law_trust.nd rfl (Or.inl rfl) (ge_op opx_mod (ge_op opx_add (GE.of_pure (gp_op opx_add (gp_var (pv 6)) gp_int)) (ge_callU c__law_draw hr (by first | decide | omega) rfl rfl rfl mono__law_draw (pv 0) (gd_cons (ge_op opx_sub (ge_cbB1 cax_len (by rfl) T.z_len (by decide +kernel) (pv 2)) (GE.of_pure gp_int)) gd_nil))) (ge_cbB1 cax_len (by rfl) T.z_len (by decide +kernel) (pv 2))))
      (gss_one (gs_append (pv 4) (gd_cons (ge_op opx_add (ge_tupD (gd_cons (GE.of_pure (gp_ix ixx (gp_var (pv 2)) (gp_var (pv 6)) (fun _ _ => rfl))) (gd_cons (GE.of_pure (gp_ix ixx (gp_var (pv 2)) (gp_var (pv 7)) (fun _ _ => rfl))) gd_nil))) (ge_callU c__law_span hr (by first | decide | omega) rfl rfl rfl mono__law_span (pv 0) (gd_cons (ge_ix ixx (ge_lstD (gd_cons (GE.of_pure gp_int) (gd_cons (GE.of_pure gp_int) (gd_cons (GE.of_pure gp_int) (gd_cons (GE.of_pure (gp_op opx_mod (gp_var (pv 5)) gp_int)) gd_nil))))) (GE.of_pure (gp_var (pv 3))) (fun _ _ => rfl)) gd_nil))) gd_nil))))))
      (gss_cons (gs_setE (i := 8) sc__law_trust.nd rfl (Or.inl rfl) (ge_slN (GE.of_pure (gp_var (pv 2))) (go_some (GE.of_pure gp_int)) go_none))
      (gss_cons (gs_setE (i := 9) sc__law_trust.nd rfl (Or.inl rfl) (ge_lstOD gd_nil))
      (gss_cons (gs_for PassesOwn.never rfl (gi_r1 rfl T.z_range (GD.ga (gd_cons (ge_op opx_add (GE.of_pure gp_int) (ge_callU c__law_draw hr (by first | decide | omega) rfl rfl rfl mono__law_draw (pv 0) (gd_cons (ge_cbB (cax_min2 rfl) (by rfl) T.z_min (by decide +kernel) (gd_cons (GE.of_pure gp_int) (gd_cons (ge_cbB1 cax_len (by rfl) T.z_len (by decide +kernel) (pv 8)) gd_nil))) gd_nil))) gd_nil))) (gg_name (pg_name (i := 5) sc__law_trust.nd rfl (Or.inl rfl)) rfl)
      (gss_cons (gs_setE (i := 10) sc__law_trust.nd rfl (Or.inl rfl) (ge_popD (pv 8) (gd_cons (ge_callU c__law_draw hr (by first | decide | omega) rfl rfl rfl mono__law_draw (pv 0) (gd_cons (ge_cbB1 cax_len (by rfl) T.z_len (by decide +kernel) (pv 8)) gd_nil)) gd_nil)))
      (gss_cons (gs_setE (i := 11) sc__law_trust.nd rfl (Or.inl rfl) (ge_callU c__law_draw hr (by first | decide | omega) rfl rfl rfl mono__law_draw (pv 0) (gd_cons (GE.of_pure gp_int) gd_nil)))
      (gss_cons (gs_setE (i := 12) sc__law_trust.nd rfl (Or.inl rfl) (ge_ix ixx (ge_lstD (gd_cons (ge_tupD (gd_cons (GE.of_pure gp_str) gd_nil)) (gd_cons (ge_tupD (gd_cons (GE.of_pure gp_str) gd_nil)) (gd_cons (ge_tupD (gd_cons (GE.of_pure gp_str) (gd_cons (GE.of_pure gp_str) gd_nil))) gd_nil)))) (ge_callU c__law_draw hr (by first | decide | omega) rfl rfl rfl mono__law_draw (pv 0) (gd_cons (GE.of_pure gp_int) gd_nil)) (fun _ _ => rfl)))
      (gss_one (gs_append (pv 9) (gd_cons (ge_tupD (gd_cons (GE.of_pure (gp_var (pv 10))) (gd_cons (GE.of_pure (gp_var (pv 12))) (gd_cons (GE.of_pure (gp_var (pv 11))) (gd_cons (ge_op opx_add (GE.of_pure (gp_op opx_add (gp_var (pv 11)) gp_int)) (ge_callU c__law_draw hr (by first | decide | omega) rfl rfl rfl mono__law_draw (pv 0) (gd_cons (GE.of_pure gp_int) gd_nil))) gd_nil))))) gd_nil)))))))
      (gss_one (gs_ret (ge_tupD (gd_cons (GE.of_pure (gp_ix ixx (gp_var (pv 2)) gp_int (fun _ _ => rfl))) (gd_cons (ge_cbT1 cax_tuple (by rfl) T.z_tuple (by decide +kernel) (pv 4)) (gd_cons (ge_cbT1 cax_tuple (by rfl) T.z_tuple (by decide +kernel) (pv 9)) gd_nil)))))))))))))), fun o ds Q ⟨n, m, h, u, hn, m1, m5, q⟩ => ?_⟩
  subst h
  refine x_start (e := [some (.own o), some (.f (.int m)), none, none, none, none, none, none, none, none, none, none, none]) rfl ?_
  walk_at "x"
  intro d1 o1 d10 d11 u1
  walk_at "x"
  refine ⟨_, _, rfl, u1, by omega, by omega, by omega, fun ns o2 hl hb nd u2 => ?_⟩
  walk_at "x"
  intro kind o3 k0 k1 u3
  walk_at "x"
  rw [List.length_map]
  refine ⟨_, _, rfl, ⟨by omega, by omega, by omega, by omega⟩, fun i e => ∃ (o' : O) (ts : List D) (x5 : Option Sl), Un o' (n + 102 + 4 * i) ∧ ts.length ≤ i ∧ (∀ t ∈ ts, TieIn ns t) ∧ e = [some (.own o'), some (.f (.int m)), some (.f (.lst (ns.map D.str))), some (.f (.int kind)), some (.own (.lst ts)), x5, none, none, none, none, none, none, none], ⟨o3, [], none, u3, Nat.le_refl _, nofun, rfl⟩, ?_, ?_⟩
  · rintro i d e hd ⟨o4, ts, x5, u4, htl, ht, rfl⟩
    obtain ⟨hi, rfl⟩ := rngA_at hd
    walk_at "x"
    intro c o5 c0 c1 u5
    walk_at "x"
    refine x_iteD (fun hc => ?_) (fun hc => ?_)
    · walk_at "x"
      intro c2 o6 c20 c21 u6
      walk_at "x"
      refine ix_name c20 (by omega) fun a ha => ?_
      walk_at "x"
      refine ix_name (by omega) (by omega) fun b hb2 => ?_
      walk_at "x"
      refine x_ixM k0 (by simpa using k1) fun dw hw => ?_
      obtain ⟨way, rfl⟩ := way_is hw
      walk_at "x"
      refine ⟨_, way, rfl, u6, by omega, fun s v o7 s0 sv vl u7 => ?_⟩
      walk_at "x"
      refine x_appE rfl (by omega) ?_
      refine ⟨o7, ts ++ [.tup [.str a, .str b, .int s, .int v]], _, u7.mono (by omega), by rw [List.length_append]; exact Nat.succ_le_succ htl, tie_snoc ht ⟨a, b, s, v, rfl, List.mem_of_getElem? ha, List.mem_of_getElem? hb2, nodup_ne nd ha hb2 (by omega), s0, sv, vl⟩, rfl⟩
    · walk_at "x"
      exact ⟨o5, ts, _, u5.mono (by omega), by omega, ht, rfl⟩
  rintro e ⟨o4, ts, x5, u4, htl, ht, rfl⟩
  rw [List.length_map, List.length_range] at htl u4
  walk_at "x"
  intro r o5 r0 r1 u5
  walk_at "x"
  refine ⟨fun i e => ∃ (o' : O) (ts' : List D) (x5 x6 x7 : Option Sl), Un o' (n + 150 + 4 * i) ∧ ts'.length ≤ ts.length + i ∧ (∀ t ∈ ts', TieIn ns t) ∧ e = [some (.own o'), some (.f (.int m)), some (.f (.lst (ns.map D.str))), some (.f (.int kind)), some (.own (.lst ts')), x5, x6, x7, none, none, none, none, none], ⟨o5, ts, _, _, _, u5.mono (by omega), Nat.le_refl _, ht, rfl⟩, ?_, ?_⟩
  · rintro i d e hd ⟨o6, ts', x5, x6, x7, u6, htl', ht', rfl⟩
    obtain ⟨hi, rfl⟩ := rng_at hd
    walk_at "x"
    rw [List.length_map]
    walk_at "x"
    intro one o7 n0 n1 u7
    walk_at "x"
    rw [List.length_map]
    walk_at "x"
    intro c o8 c0 c1 u8
    walk_at "x"
    rw [List.length_map]
    walk_at "x"
    refine ix_name n0 n1 fun a ha => ?_
    walk_at "x"
    refine ix_name (Int.emod_nonneg _ (by omega)) (Int.emod_lt_of_pos _ (by omega)) fun b hb2 => ?_
    walk_at "x"
    refine x_ixM k0 (by simpa using k1) fun dw hw => ?_
    obtain ⟨way, rfl⟩ := way_is hw
    walk_at "x"
    refine ⟨_, way, rfl, u8, by omega, fun s v o9 s0 sv vl u9 => ?_⟩
    walk_at "x"
    refine x_appE rfl (by omega) ?_
    refine ⟨o9, ts' ++ [.tup [.str a, .str b, .int s, .int v]], _, _, _, u9.mono (by omega), by rw [List.length_append]; exact Nat.succ_le_succ htl', tie_snoc ht' ⟨a, b, s, v, rfl, List.mem_of_getElem? ha, List.mem_of_getElem? hb2, nodup_ne nd ha hb2 (turn_ne n0 n1 c0 c1).symm, s0, sv, vl⟩, rfl⟩
  rintro e ⟨o6, ts', x5, x6, x7, u6, htl', ht', rfl⟩
  rw [List.length_map, List.length_range] at u6 htl'
  walk_at "x"
  obtain ⟨oo, nr, rfl⟩ : ∃ oo nr, ns = oo :: nr := by
    cases ns with
    | nil => exact absurd hl (by rw [List.length_nil]; omega)
    | cons a b => exact ⟨a, b, rfl⟩
  rw [List.length_cons] at hl
  rw [show Fx.cutD ((oo :: nr).map D.str) (some 1) none = nr.map D.str from cut_from (by decide) (by rw [List.length_map, List.length_cons]; omega), List.length_map]
  obtain ⟨mm, hmm, mm0, mm1, mm2⟩ : ∃ mm : Int, (if ((nr.length : Nat) : Int) < 6 then ((nr.length : Nat) : Int) else 6) = mm ∧ 0 < mm ∧ mm ≤ 6 ∧ mm ≤ nr.length := by
    refine ⟨_, rfl, ?_, ?_, ?_⟩ <;> split <;> omega
  rw [hmm]
  clear hmm
  walk_at "x"
  intro r2 o7 r20 r21 u7
  walk_at "x"
  refine ⟨fun i e => ∃ (o' : O) (left : List Str) (ws : List D) (x5 x10 x11 x12 : Option Sl), Un o' (n + 300 + 4 * i) ∧ (ws.map nm0 ++ left).Perm nr ∧ left.length + i = nr.length ∧ ws.length = i ∧ (∀ t ∈ ws, WishIn (oo :: nr) t) ∧ e = [some (.own o'), some (.f (.int m)), some (.f (.lst ((oo :: nr).map D.str))), some (.f (.int kind)), some (.own (.lst ts')), x5, x6, x7, some (.own (.lst (left.map D.str))), some (.own (.lst ws)), x10, x11, x12], ⟨o7, nr, [], _, _, _, _, u7.mono (by omega), .refl _, rfl, rfl, nofun, rfl⟩, ?_, ?_⟩
  · rintro i d e hd ⟨o8, left, ws, x5, x10, x11, x12, u8, pm, hll, hwl, hw, rfl⟩
    obtain ⟨hi, rfl⟩ := rng_at hd
    walk_at "x"
    rw [List.length_map]
    walk_at "x"
    intro c o9 c0 c1 u9
    walk_at "x"
    have hc : c.toNat < left.length := by omega
    have ha : left[c.toNat]? = some left[c.toNat] := List.getElem?_eq_getElem hc
    generalize left[c.toNat] = a at ha
    have pa := pop_perm ha
    have am : a ∈ nr := pm.mem_iff.mp (List.mem_append_right _ (List.mem_of_getElem? ha))
    refine ⟨c, left.map D.str, .str a, rfl, rfl, c0, by rw [List.length_map]; omega, by rw [List.getElem?_map, ha]; rfl, ?_⟩
    rw [erase_strs]
    walk_at "x"
    intro s o10 s0 s1 u10
    walk_at "x"
    intro dp o11 p0 p1 u11
    walk_at "x"
    refine x_ixM p0 p1 fun p hp => ?_
    have hp : p ∈ allDeeds := hp
    walk_at "x"
    intro g o12 g0 g1 u12
    walk_at "x"
    refine x_appE rfl (by omega) ?_
    refine ⟨o12, left.eraseIdx c.toNat, ws ++ [.tup [.str a, p, .int s, .int (s + 1 + g)]], _, _, _, _, u12.mono (by omega), ?_, ?_, by rw [List.length_append, hwl]; rfl, wish_snoc hw ⟨a, p, s, _, rfl, List.mem_cons_of_mem _ am, hp, s0, by omega, by omega⟩, rfl⟩
    · rw [List.map_append, List.append_assoc]
      exact (List.Perm.append_left _ pa).trans pm
    · rw [List.length_eraseIdx_of_lt hc]
      omega
  rintro e ⟨o8, left, ws, x5, x10, x11, x12, u8, pm, hll, hwl, hw, rfl⟩
  rw [List.length_map, List.length_range] at u8 hll hwl
  walk_at "x"
  refine x_ixL (d := .str oo) (L2.atI_nat (xs := (oo :: nr).map D.str) (j := 0) rfl) ?_
  walk_at "x"
  have wn := (pm.nodup_iff.mpr (List.nodup_cons.mp nd).2)
  obtain ⟨ys, rfl, yok⟩ := wi_of hb hw
  obtain ⟨tis, rfl, tok⟩ := ti_of hb ht'
  rw [wi_names] at wn pm
  rw [List.length_map] at hwl htl'
  have nd2 := List.nodup_cons.mp nd
  refine q oo tis ys nr o8 ⟨hb oo (List.mem_cons_self ..), fun t h => (tok t h).1, by omega, fun x h => (yok x h).1, by omega, by omega, (List.nodup_append.mp wn).1, fun x hx e => nd2.1 (pm.mem_iff.mp (List.mem_append_left _ (List.mem_map.mpr ⟨x, hx, e⟩)))⟩ ⟨fun t h => (tok t h).2, fun x h => (yok x h).2⟩ (by omega) nd2.2 nd2.1 (u8.mono (by omega))

end
end K80

namespace K80
open PySem PySem.Spec PyProof.Rows L2 Lk Evl Fx


local macro_rules | `(tactic| walk_at "sz") => `(tactic| first
  | exact Nat.le_of_ble_eq_true rfl
  | assumption
  | exact small_sz (Nat.le_of_ble_eq_true rfl)
  | (simp only [List.length_cons, List.length_nil, List.length_map, List.length_append]; first | omega | exact small_sz (by omega)))
local macro_rules | `(tactic| walk_at "x1") => `(tactic| first
  | with_reducible refine x_seq ?_
  | (with_reducible show wVar _ _ _); first | refine x_varF rfl ?_ | refine x_varO rfl ?_ | refine x_varV rfl ?_
  | with_reducible refine x_c ?_
  | with_reducible refine x_exf ?_
  | with_reducible refine x_excd ?_
  | (with_reducible show ∃ d1, Sl.cd (Sl.vw _) = some d1 ∧ _); refine x_excV rfl ?_
  | (with_reducible show ∃ d1, Sl.cd (Sl.own _) = some d1 ∧ _); refine x_excO rfl ?_
  | with_reducible refine x_binP ?_
  | with_reducible refine x_bin ?_
  | with_reducible refine x_adC ?_
  | with_reducible refine x_adN ?_
  | with_reducible refine x_lst ?_
  | with_reducible refine x_tup ?_
  | with_reducible refine x_lstO ?_
  | (with_reducible refine x_and (p := _ ≤ sizeLine) ?h ?_); (case h => walk_at "sz")
  | with_reducible refine x_callF ?_
  | with_reducible refine x_callL ?_
  | with_reducible refine x_listO ?_
  | with_reducible refine x_dstar ?_
  | with_reducible refine x_getN ?_
  | with_reducible refine x_ss ?_
  | with_reducible refine x_mulO ?_
  | with_reducible refine x_iZM ?_
  | (with_reducible show wCallU _ _ _ _ _); refine x_callU rfl ?_
  | with_reducible refine x_callV ?_
  | with_reducible refine x_join ?_
  | with_reducible refine x_waD ?_
  | with_reducible refine x_lc ?_
  | with_reducible refine x_lc2 ?_
  | with_reducible refine x_lenSets ?_
  | (with_reducible show wApp _ _ _ _); refine x_app rfl ?_
  | (with_reducible show wBinV _ _ _ _ _); refine x_binV rfl ?_
  | (with_reducible show wPopD _ _ _ _); refine x_popD rfl ?_
  | (with_reducible show wCatV _ _ _ _); refine x_catV rfl ?_
  | with_reducible refine x_slN2 ?_
  | with_reducible refine x_sortedSets ?_
  | with_reducible refine x_tplL ?_
  | with_reducible refine x_tplT ?_
  | with_reducible refine x_isB ?_
  | with_reducible refine x_r1 ?_
  | with_reducible refine x_r2 ?_
  | (with_reducible refine x_r1e ?h0 ?h1 ?_); (case h0 => omega); (case h1 => omega)
  | with_reducible refine x_iL ?_
  | with_reducible refine x_iT ?_
  | with_reducible refine x_iS ?_
  | with_reducible refine x_iE ?_
  | with_reducible refine x_iEe ?_
  | with_reducible refine x_yes ?_
  | with_reducible refine x_for ?_
  | (with_reducible show wLot _ [D.int _] _); (refine' x_lot (by assumption) ?h1 ?h2 ?h3 ?_); (case h1 => omega); (case h2 => first | decide | omega); (case h3 => first | decide | omega)
  | (with_reducible show ∃ o, _ = some (some (Sl.own o)) ∧ _); refine x_exO rfl ?_
  | with_reducible refine x_exo ?_
  | with_reducible refine x_ret ?_
  | with_reducible refine x_set ?_
  | with_reducible refine x_fin ?_
  | with_reducible refine x_fino ?_
  | (with_reducible refine x_and (p := _ < List.length _) ?h ?_); (case h => exact Nat.le_of_ble_eq_true rfl); (try dsimp only [List.set_cons_succ, List.set_cons_zero])
  | with_reducible refine x_next ?_
  | with_reducible refine x_retN ?_
  | with_reducible refine x_drop ?_
  | with_reducible refine x_asg ?_
  | (with_reducible refine x_gtp ?h ?_); (case h => rfl)
  | with_reducible refine x_gcons ?_
  | with_reducible refine x_gnil ?_
  | (with_reducible refine x_gn ?h ?_); (case h => exact Nat.le_of_ble_eq_true rfl); (try dsimp only [List.set_cons_succ, List.set_cons_zero])
  | with_reducible refine x_ifS ?_
  | with_reducible refine x_if ?_
  | with_reducible refine x_itT ?_
  | with_reducible refine x_itF ?_
  | with_reducible refine x_iteN ?_
  | with_reducible refine x_tru ?_
  | with_reducible refine x_tB ?_
  | with_reducible refine x_dtB ?_
  | with_reducible refine x_dtN ?_
  | with_reducible refine x_exb ?_
  | with_reducible refine x_exdb ?_
  | with_reducible refine x_tand ?_
  | with_reducible refine x_tor ?_
  | with_reducible refine x_tnot ?_
  | with_reducible refine x_and2 ?_
  | with_reducible refine x_or2 ?_
  | with_reducible refine x_not2 ?_
  | with_reducible refine x_chain ?_
  | with_reducible refine x_sub ?_
  | with_reducible refine x_addI ?_
  | (with_reducible refine x_addS ?h ?_); (case h => walk_at "sz")
  | (with_reducible refine x_addL ?h ?_); (case h => walk_at "sz")
  | (with_reducible refine x_addT ?h ?_); (case h => walk_at "sz")
  | with_reducible refine x_lt ?_
  | with_reducible refine x_le ?_
  | with_reducible refine x_gt ?_
  | with_reducible refine x_ge ?_
  | with_reducible refine x_ltS ?_
  | with_reducible refine x_eqI ?_
  | with_reducible refine x_neI ?_
  | with_reducible refine x_allSg ?_
  | with_reducible refine x_m0 ?_
  | with_reducible refine x_lstT ?_
  | with_reducible refine x_lstL ?_
  | with_reducible refine x_strB ?_
  | with_reducible refine x_strN ?_
  | with_reducible refine x_strS ?_
  | with_reducible refine x_isT ?_
  | with_reducible refine x_isI ?_
  | with_reducible refine x_neg ?_
  | with_reducible refine x_un ?_
  | (with_reducible refine x_pow ?h ?_); (case h => exact ⟨by decide, by decide +kernel⟩)
  | (with_reducible refine x_mod ?h ?_); (case h => first | decide | omega)
  | (with_reducible refine x_mul ?h ?_); (case h => exact mul_ok (by first | decide | omega) (by first | decide | omega))
  | (with_reducible refine x_div ?h ?_); (case h => exact div_ok (by first | decide | omega) (by first | decide | omega))
  | with_reducible refine x_ipA ?_
  | (with_reducible show wAugL _ _ _ _ _ _); refine x_augL rfl ?_
  | (with_reducible show wAug _ _ _ _ _); refine x_aug rfl ?_
  | (with_reducible show ∃ k' ds d, Sl.f (D.int _) = Sl.f (D.int k') ∧ _); refine x_augL1 rfl (by decide) rfl ?_
  | (with_reducible show ∃ k' j ds, Sl.f (D.int _) = Sl.f (D.int k') ∧ _ = some (some (Sl.own (O.lst ds))) ∧ ixN _ k' = some j ∧ _); refine x_setL1 rfl rfl ?_; (try dsimp only [List.set_cons_succ, List.set_cons_zero])
  | (with_reducible show ∃ ds j, _ = some (some (Sl.own (O.lst ds))) ∧ ixN _ _ = some j ∧ _); refine x_augL2 rfl rfl ?_; (try dsimp only [List.set_cons_succ, List.set_cons_zero])
  | (with_reducible show gSetL _ _ _ _ _); refine x_setL rfl ?_
  | (with_reducible show dIx (D.lst _) (D.int _) _); refine x_ixL rfl ?_
  | (with_reducible show dIx (D.tup _) (D.int _) _); refine x_ixT rfl ?_
  | with_reducible refine x_cb ?_
  | (with_reducible show wCB1 _ _ _ _); refine x_cb1 rfl rfl ?_
  | with_reducible refine x_fm ?_
  | with_reducible refine x_exl ?_
  | with_reducible refine x_ext ?_
  | with_reducible refine x_exs ?_
  | with_reducible refine x_exi ?_
  | with_reducible refine x_sl ?_
  | with_reducible refine x_slN ?_
  | with_reducible refine x_slS ?_
  | with_reducible refine x_frz ?_
  | with_reducible refine x_frL ?_
  | with_reducible refine x_revT ?_
  | with_reducible refine x_revL ?_
  | with_reducible refine x_splitO ?_
  | (with_reducible show wSlO _ _ _ _ _); refine x_slO rfl ?_
  | (with_reducible show ∃ ds2, _ = some (some (Sl.own (O.lst ds2))) ∧ _); refine x_exOl rfl ?_
  | with_reducible refine x_dictO ?_
  | with_reducible refine x_psC ?_
  | with_reducible refine x_psN ?_
  | with_reducible refine x_get ?_
  | (with_reducible show gSetSl _ _ _ _ _ _); refine x_setSl rfl ?_
  | with_reducible refine x_split ?_
  | with_reducible refine x_isN1 ?_
  | with_reducible refine x_isN0 rfl ?_
  | with_reducible refine x_iZ ?_
  | with_reducible refine x_zT ?_
  | with_reducible refine x_zL ?_
  | with_reducible refine x_stp ?_
  | with_reducible refine x_js ?_
  | with_reducible refine x_jsC ?_
  | with_reducible refine x_jsN ?_
  | with_reducible refine x_fmt ?_
  | with_reducible refine x_callFX ?_
  | (with_reducible refine x_glp ?h ?_); (case h => rfl)
  | with_reducible refine x_raiseR ?_
  | with_reducible refine x_row ?_
  | with_reducible refine x_lenL ?_
  | with_reducible refine x_lenT ?_
  | with_reducible refine x_lenD ?_
  | (with_reducible refine x_lenS ?h ?_); (case h => walk_at "sz")
  | with_reducible refine x_max ?_
  | with_reducible refine x_min ?_
  | with_reducible refine x_intI ?_
  | with_reducible refine x_intB ?_
  | (with_reducible refine x_isInt ?h ?_); (case h => first | assumption | exact part_ty (by assumption) | (intro _ hh; cases hh; done))
  | (with_reducible refine x_isBl ?h ?_); (case h => first | assumption | exact part_ty (by assumption) | (intro _ hh; cases hh; done))
  | (with_reducible refine x_isStr ?h ?_); (case h => first | assumption | exact part_ty (by assumption) | (intro _ hh; cases hh; done))
  | (with_reducible refine x_isTup ?h ?_); (case h => first | assumption | exact part_ty (by assumption) | (intro _ hh; cases hh; done))
  | (with_reducible refine x_isLst ?h ?_); (case h => first | assumption | exact part_ty (by assumption) | (intro _ hh; cases hh; done))
  | (with_reducible refine x_isDic ?h ?_); (case h => first | assumption | exact part_ty (by assumption) | (intro _ hh; cases hh; done))
  | (with_reducible refine x_itTe ?e ?_); (case e => rfl)
  | (with_reducible refine x_itFe ?e ?_); (case e => rfl)
  | with_reducible refine x_dnewO ?_
  | with_reducible refine x_dput ?_
  | with_reducible refine x_dix ?_
  | with_reducible refine x_sortedD ?_
  | with_reducible refine x_star ?_
  | with_reducible refine x_starT ?_
  | with_reducible refine x_frzD ?_
  | with_reducible refine x_sw ?_
  | with_reducible refine x_cnt ?_
  | with_reducible refine x_waC ?_
  | with_reducible refine x_waN ?_
  | with_reducible refine x_lenDD ?_
  | with_reducible refine x_allX ?_
  | (with_reducible show wFz _ _ _ _); refine x_fz rfl ?_
  | (with_reducible show wFzS _ _ _ _); refine x_fzS rfl ?_
  | (with_reducible show wFzO _ _ _ _); refine x_fzO rfl ?_
  | (with_reducible show wiK _ _ _); refine x_iK rfl ?_
  | (with_reducible show wiIt _ _ _); refine x_iIt rfl ?_
  | with_reducible refine x_iE1 ?_
  | with_reducible refine x_forR ?_
  | (with_reducible show wDIxV _ _ _ _); refine x_dixV rfl (cd_dicO _) ?_
  | (with_reducible show wDPop _ _ _ _); refine x_dpop rfl ?_
  | with_reducible refine x_pickO ?_
  | (with_reducible show wExt _ _ _ _); refine x_extO rfl ?_
  | with_reducible refine x_sortedR ?_
  | with_reducible refine x_sortedL ?_
  | with_reducible refine x_ixSt ?_
  | (with_reducible show wiVal _ _ _); refine x_iVal rfl ?_
  | with_reducible refine x_dictP ?_
  | with_reducible refine x_dictZip ?_
  | with_reducible refine x_revS ?_
  | with_reducible refine x_par ?_
  | (with_reducible show wIsiV _ _ _ _ _); refine x_isiV rfl ?_
  | ((with_reducible show _ ∧ _); refine And.intro (Nat.le_of_ble_eq_true rfl) ?_))
local macro_rules | `(tactic| walk_at "x") => `(tactic| repeat (walk_at "x1"))

section
variable {P : Program} {w : World} {K : PySem.W.Frag} {mg : Str → Option Value} {base : Heap} {tabs : List Addr}
/-! ### plans -/
theorem rising_pw : ∀ (l : List Str) (p : Str), risingS p l = true → (p :: l).Pairwise (fun a b : Str => a.cps.toList ≤ b.cps.toList)
  | [], p, _ => List.pairwise_singleton _ _
  | x :: r, p, h => by
    have h : (!ltCps x.cps.toList p.cps.toList && risingS x r) = true := h
    rw [Bool.and_eq_true, Bool.not_eq_true', ltCps_eq, decide_eq_false_iff_not, List.not_lt] at h
    have ih := rising_pw r x h.2
    refine List.Pairwise.cons (fun b hb => ?_) ih
    rcases List.mem_cons.mp hb with rfl | hb
    · exact h.1
    · exact List.le_trans h.1 ((List.pairwise_cons.mp ih).1 b hb)
theorem sorted_uniq {ys zs : List Str} (h1 : sortedS ys = true) (h2 : sortedS zs = true) (p : ys.Perm zs) : ys = zs := by
  have pw : ∀ l : List Str, sortedS l = true → l.Pairwise (fun a b : Str => a.cps.toList ≤ b.cps.toList) := fun l h => by
    cases l with
    | nil => exact .nil
    | cons x r => exact rising_pw r x h
  exact List.Perm.eq_of_pairwise (fun a b _ _ x y => TL.ext_tl (List.le_antisymm x y)) (pw _ h1) (pw _ h2) p
theorem perm_of_mem {ys zs : List Str} (h1 : ys.Nodup) (h2 : zs.Nodup) (h : ∀ y, y ∈ ys ↔ y ∈ zs) : ys.Perm zs := (List.perm_ext_iff_of_nodup h1 h2).mpr h
abbrev Case := List (Str × Str)
def cP (cs : Case) : List (Key × D) := cs.map fun p => (.inr p.1, .str p.2)
def cD (cs : Case) : D := dicD (cP cs)
def look (cs : Case) (x : Str) : Option Str := cs.lookup x
theorem getP_case (cs : Case) (x : Str) : getP (cP cs) (.inr x) = (look cs x).map D.str := by
  induction cs with
  | nil => rfl
  | cons p cs ih =>
    obtain ⟨a, b⟩ := p
    show getP ((.inr a, .str b) :: cP cs) (.inr x) = (List.lookup x ((a, b) :: cs)).map D.str
    rw [List.lookup_cons]
    unfold getP at ih ⊢
    by_cases h : x = a
    · subst h
      rw [beq_self_eq_true, List.find?_cons_of_pos (by simp)]
      rfl
    · rw [beq_false_of_ne h, List.find?_cons_of_neg (by simpa using fun e => h e.symm)]
      exact ih
theorem look_mem {cs : Case} {x g : Str} (h : look cs x = some g) : (x, g) ∈ cs := PySem.mem_of_lookup h
theorem look_of {cs : Case} (nd : (cs.map (·.1)).Nodup) {x g : Str} (h : (x, g) ∈ cs) : look cs x = some g := by
  induction cs with
  | nil => cases h
  | cons p cs ih =>
    obtain ⟨a, b⟩ := p
    have nd2 := List.nodup_cons.mp nd
    unfold look
    rw [List.lookup_cons]
    rcases List.mem_cons.mp h with e | h
    · cases e
      rw [beq_self_eq_true]
    · rw [beq_false_of_ne (fun e => nd2.1 (List.mem_map.mpr ⟨_, h, e⟩))]
      exact ih nd2.2 h

/-! ### who settles whom, ways -/
structure CsOk (cs : Case) : Prop where
  nd : (cs.map (·.1)).Nodup
  a : ∀ p ∈ cs, nameB (.str p.1) = true
  b : ∀ p ∈ cs, nameB (.str p.2) = true
  len : cs.length ≤ 6
def goes (cs : Case) : Nat → Str → Option Str
  | 0, x => some x
  | n + 1, x => (goes cs n x).bind (look cs)
theorem goes_add {cs : Case} {i : Nat} {x : Str} : ∀ k, goes cs (i + k) x = (goes cs i x).bind (goes cs k)
  | 0 => by
    show goes cs i x = _
    cases goes cs i x <;> rfl
  | k + 1 => by
    show (goes cs (i + k) x).bind (look cs) = _
    rw [goes_add k]
    cases goes cs i x <;> rfl
theorem goes_one {cs : Case} {n : Nat} {x : Str} : goes cs (n + 1) x = (look cs x).bind (goes cs n) := by
  have := goes_add (cs := cs) (i := 1) (x := x) n
  rw [Nat.add_comm] at this
  exact this
theorem goes_pre {cs : Case} {i n : Nat} {x y : Str} (h : goes cs n x = some y) (l : i ≤ n) : ∃ z, goes cs i x = some z := by
  have := goes_add (cs := cs) (i := i) (x := x) (n - i)
  rw [Nat.add_sub_cancel' l, h] at this
  cases e : goes cs i x with
  | none => rw [e] at this; cases this
  | some z => exact ⟨z, rfl⟩
def Reach (cs : Case) (x y : Str) : Prop := ∃ n, goes cs n x = some y
theorem look_key {cs : Case} {x g : Str} (h : look cs x = some g) : x ∈ cs.map (·.1) := List.mem_map.mpr ⟨_, look_mem h, rfl⟩
theorem least_of {p : Nat → Prop} {n : Nat} (h : p n) : ∃ m, m ≤ n ∧ p m ∧ ∀ k, k < m → ¬ p k := by
  induction n using Nat.strongRecOn with
  | ind n ih =>
    by_cases e : ∃ k, k < n ∧ p k
    · obtain ⟨k, l, pk⟩ := e
      obtain ⟨m, h1, h2, h3⟩ := ih k l pk
      exact ⟨m, by omega, h2, h3⟩
    · exact ⟨n, Nat.le_refl _, h, fun k l pk => e ⟨k, l, pk⟩⟩
theorem nodup_of_inj {l : List Str} (h : ∀ i j, i < j → j < l.length → l[i]? ≠ l[j]?) : l.Nodup := by
  induction l with
  | nil => exact .nil
  | cons x l ih =>
    refine List.nodup_cons.mpr ⟨fun hx => ?_, ih fun i j a b => by have := h (i + 1) (j + 1) (by omega) (by simpa using b); simpa using this⟩
    obtain ⟨j, hj, e⟩ := List.getElem_of_mem hx
    exact h 0 (j + 1) (by omega) (by simpa using hj) (by simp [List.getElem?_eq_getElem hj, e])
theorem reach_le {cs : Case} {x y : Str} (h : Reach cs x y) : ∃ n, n ≤ cs.length ∧ goes cs n x = some y := by
  obtain ⟨n0, h0⟩ := h
  obtain ⟨n, _, hn, least⟩ := least_of (p := fun n => goes cs n x = some y) h0
  refine ⟨n, ?_, hn⟩
  have key : ∀ i, i < n → ∃ z g, goes cs i x = some z ∧ look cs z = some g := fun i hi => by
    obtain ⟨z, hz⟩ := goes_pre hn (Nat.le_of_lt hi)
    obtain ⟨g, hg⟩ := goes_pre (i := i + 1) hn hi
    have e : goes cs (i + 1) x = (goes cs i x).bind (look cs) := rfl
    rw [hz, hg] at e
    exact ⟨z, g, hz, e.symm⟩
  let l : List Str := (List.range n).map fun i => (goes cs i x).getD ""
  have ll : l.length = n := by simp [l]
  have at_l : ∀ i, i < n → l[i]? = goes cs i x := fun i hi => by
    obtain ⟨z, g, hz, _⟩ := key i hi
    simp [l, hi, hz]
  have nd : l.Nodup := nodup_of_inj fun i j hij hj e => by
    rw [ll] at hj
    rw [at_l i (by omega), at_l j hj] at e
    have e1 := goes_add (cs := cs) (i := i) (x := x) (n - j)
    have e2 := goes_add (cs := cs) (i := j) (x := x) (n - j)
    rw [e, ← e2, Nat.add_sub_cancel' (Nat.le_of_lt hj), hn] at e1
    exact least (i + (n - j)) (by omega) e1
  have := nodup_le (l := l) (m := cs.map (·.1)) nd fun z hz => by
    obtain ⟨i, hi, e⟩ := List.getElem_of_mem hz
    rw [ll] at hi
    have h1 := at_l i hi
    rw [List.getElem?_eq_getElem (by rw [ll]; exact hi), e] at h1
    obtain ⟨z', g, hz', hg⟩ := key i hi
    rw [hz'] at h1
    cases h1
    exact look_key hg
  rw [ll, List.length_map] at this
  exact this
/-- what stands above a: its giver, that one's giver .. -/
def Abv (cs : Case) (a y : Str) : Prop := ∃ n, goes cs (n + 1) a = some y
theorem reach_abv {cs : Case} {x y : Str} : Reach cs x y ↔ x = y ∨ Abv cs x y := by
  constructor
  · rintro ⟨n, h⟩
    cases n with
    | zero => exact .inl (Option.some.inj h)
    | succ n => exact .inr ⟨n, h⟩
  · rintro (rfl | ⟨n, h⟩)
    · exact ⟨0, rfl⟩
    · exact ⟨n + 1, h⟩
theorem abv_look {cs : Case} {a y g : Str} (h : look cs a = some g) : Abv cs a y ↔ Reach cs g y := by
  constructor
  · rintro ⟨n, e⟩
    rw [goes_one, h] at e
    exact ⟨n, e⟩
  · rintro ⟨n, e⟩
    exact ⟨n, by rw [goes_one, h]; exact e⟩
theorem abv_none {cs : Case} {a y : Str} (h : look cs a = none) : ¬ Abv cs a y := fun ⟨n, e⟩ => by
  rw [goes_one, h] at e
  cases e
theorem reach_key {cs : Case} {x y : Str} (h : Reach cs x y) (k : y ∈ cs.map (·.1)) : x ∈ cs.map (·.1) := by
  rcases reach_abv.mp h with rfl | ⟨n, e⟩
  · exact k
  · rw [goes_one] at e
    cases el : look cs x with
    | none => rw [el] at e; cases e
    | some g => exact look_key el
/-! what has been gone through, as a list -/
structure Gone (cs : Case) (a : Str) (k : Nat) (l : List Str) : Prop where
  mem : ∀ y, y ∈ l ↔ ∃ n, n < k ∧ goes cs (n + 1) a = some y
  nd : l.Nodup
theorem gone_end {cs : Case} {a : Str} {k : Nat} {l : List Str} (g : Gone cs a k l) (h : goes cs (k + 1) a = none) : ∀ y, y ∈ l ↔ Abv cs a y := fun y => by
  rw [g.mem y]
  refine ⟨fun ⟨n, _, e⟩ => ⟨n, e⟩, fun ⟨n, e⟩ => ⟨n, ?_, e⟩⟩
  rcases Nat.lt_or_ge n k with hn | hn
  · exact hn
  · obtain ⟨z, hz⟩ := goes_pre (i := k + 1) e (by omega)
    rw [h] at hz
    cases hz
theorem gone_ring {cs : Case} {a : Str} {k : Nat} {l : List Str} {z : Str} (g : Gone cs a k l) (h : goes cs (k + 1) a = some z) (hz : z ∈ l) : ∀ y, y ∈ l ↔ Abv cs a y := by
  obtain ⟨j, hj, ej⟩ := (g.mem z).mp hz
  have all : ∀ n y, goes cs (n + 1) a = some y → y ∈ l := fun n => by
    induction n using Nat.strongRecOn with
    | ind n ih =>
      intro y e
      rcases Nat.lt_or_ge n k with hn | hn
      · exact (g.mem y).mpr ⟨n, hn, e⟩
      · have e1 := goes_add (cs := cs) (i := k + 1) (x := a) (n - k)
        have e2 := goes_add (cs := cs) (i := j + 1) (x := a) (n - k)
        rw [h, ← ej, ← e2, show k + 1 + (n - k) = n + 1 by omega, e] at e1
        exact ih (j + (n - k)) (by omega) y (by rw [show j + (n - k) + 1 = j + 1 + (n - k) by omega]; exact e1.symm)
  exact fun y => ⟨fun hy => let ⟨n, _, e⟩ := (g.mem y).mp hy; ⟨n, e⟩, fun ⟨n, e⟩ => all n y e⟩
theorem gone_step {cs : Case} {a : Str} {k : Nat} {l : List Str} {z : Str} (g : Gone cs a k l) (h : goes cs (k + 1) a = some z) (hz : z ∉ l) : Gone cs a (k + 1) (l ++ [z]) := by
  refine ⟨fun y => ?_, List.nodup_append.mpr ⟨g.nd, List.nodup_cons.mpr ⟨nofun, .nil⟩, fun x hx y hy e => hz (by rw [← List.mem_singleton.mp hy, ← e]; exact hx)⟩⟩
  rw [List.mem_append, List.mem_singleton, g.mem y]
  constructor
  · rintro (⟨n, h1, h2⟩ | rfl)
    · exact ⟨n, by omega, h2⟩
    · exact ⟨k, by omega, h⟩
  · rintro ⟨n, h1, h2⟩
    rcases Nat.lt_or_ge n k with hn | hn
    · exact .inl ⟨n, hn, h2⟩
    · have e : n = k := by omega
      subst e
      rw [h] at h2
      exact .inr (Option.some.inj h2).symm
theorem goes_val {cs : Case} {n : Nat} {a y : Str} (h : goes cs (n + 1) a = some y) : y ∈ cs.map (·.2) := by
  have e : goes cs (n + 1) a = (goes cs n a).bind (look cs) := rfl
  rw [h] at e
  cases ez : goes cs n a with
  | none => rw [ez] at e; cases e
  | some z =>
    rw [ez] at e
    exact List.mem_map.mpr ⟨_, look_mem (show look cs z = some y from e.symm), rfl⟩
theorem gone_len {cs : Case} {a : Str} {k : Nat} {l : List Str} (g : Gone cs a k l) : l.length ≤ cs.length := by
  have := nodup_le (l := l) (m := cs.map (·.2)) g.nd fun y hy => let ⟨n, _, e⟩ := (g.mem y).mp hy; goes_val e
  rwa [List.length_map] at this
/-! the next one, the tied -/
def nextV (oo : Str) (xs : List Wi) (cs : Case) : Option Str := (xs.map (·.a) ++ cs.map (·.2)).find? fun y => (y != oo) && !(cs.map (·.1)).contains y
def strO : Option Str → D
  | none => .non
  | some y => .str y
structure IsTied (ts : List Ti) (a : Str) (ys : List Str) : Prop where
  nd : ys.Nodup
  so : sortedS ys = true
  mem : ∀ y, y ∈ ys ↔ ∃ t ∈ ts, t.b = a ∧ t.a = y
theorem tied_uniq {ts : List Ti} {a : Str} {ys zs : List Str} (h : IsTied ts a ys) (g : IsTied ts a zs) : ys = zs :=
  sorted_uniq h.so g.so (perm_of_mem h.nd g.nd fun y => (h.mem y).trans (g.mem y).symm)
theorem tied_len {ts : List Ti} {a : Str} {ys : List Str} (h : IsTied ts a ys) : ys.length ≤ ts.length := by
  have := nodup_le (l := ys) (m := ts.map (·.a)) h.nd fun y hy => by
    obtain ⟨t, h1, _, h3⟩ := (h.mem y).mp hy
    exact List.mem_map.mpr ⟨t, h1, h3⟩
  rwa [List.length_map] at this
noncomputable def tiedB (ts : List Ti) (a : Str) (ys : List Str) : Bool := @decide (IsTied ts a ys) (Classical.propDecidable _)
theorem tiedB_eq {ts : List Ti} {a : Str} {ys zs : List Str} (h : IsTied ts a zs) : tiedB ts a ys = (ys == zs) := by
  unfold tiedB
  by_cases e : ys = zs
  · rw [e, beq_self_eq_true]
    exact @decide_eq_true _ (_) h
  · rw [beq_false_of_ne e]
    exact @decide_eq_false _ (_) fun k => e (tied_uniq k h)
def mostD : Option Int → D
  | none => .non
  | some m => .int m
def fullV (oo : Str) (xs : List Wi) (most : Option Int) (cs : Case) : Bool := match most with
  | none => false
  | some m => decide ((cs.length : Int) ≥ m) && (nextV oo xs cs).isSome
noncomputable def ringV (cs : Case) (a : Str) : Bool := @decide (Abv cs a a) (Classical.propDecidable _)
noncomputable def borneB (cs : Case) (a : Str) (x : Wi) : Bool := @decide (Reach cs x.a a) (Classical.propDecidable _)
def bearB (t : Ti) (b : List Wi) : Bool := b.all fun x => decide (t.s ≤ x.s) && decide (x.u ≤ t.u)
noncomputable def timeV (ts : List Ti) (xs : List Wi) (cs : Case) (a g : Str) : Bool := !((ts.filter fun t => (t.a == g) && (t.b == a)).any fun t => bearB t (xs.filter (borneB cs a)))
noncomputable def barV (oo : Str) (ts : List Ti) (xs : List Wi) (most : Option Int) (cs : Case) : D → Bool
  | .tup [.str _] => fullV oo xs most cs
  | .tup [.str k, .str a] => match look cs a with
    | none => false
    | some g => if k == "ring" then ringV cs a else timeV ts xs cs a g
  | _ => false
noncomputable def rowV (f : Str → D → Bool) : D → Bool
  | .tup [.str g, t] => f g t
  | _ => false
def nmOf : D → Str
  | .tup [.str g, _] => g
  | _ => ""
noncomputable def holdsV (oo : Str) (ts : List Ti) (xs : List Wi) (most : Option Int) : Nat → Case → D → Bool
  | n + 1, cs, .tup [.str _, .str a, .tup ds] => (nextV oo xs cs == some a) && (tiedB ts a (ds.map nmOf) && ds.all (rowV fun g t => holdsV oo ts xs most n (cs ++ [(a, g)]) t))
  | _, cs, d => barV oo ts xs most cs d
def Leaf79 (d : D) : Prop := d = .tup [.str "many"] ∨ ∃ a : Str, PyData.strOk a = true ∧ (d = .tup [.str "ring", .str a] ∨ d = .tup [.str "time", .str a])
def rwD (r : Str × D) : D := .tup [.str r.1, r.2]
def IsTr (m : Nat) : Nat → D → Prop
  | 0, d => Leaf79 d
  | n + 1, d => Leaf79 d ∨ ∃ (a : Str) (rs : List (Str × D)), d = .tup [.str "giver", .str a, .tup (rs.map rwD)] ∧ PyData.strOk a = true ∧ rs.length ≤ m ∧ ∀ r ∈ rs, PyData.strOk r.1 = true ∧ IsTr m n r.2
theorem leaf_fit {d : D} (h : Leaf79 d) : Fit 1 d := by
  rcases h with rfl | ⟨a, ha, rfl | rfl⟩
  · exact fit_tup fun x hx => by rw [List.mem_singleton.mp hx]; exact fit_str (by decide +kernel)
  all_goals
    refine fit_tup fun x hx => ?_
    rcases List.mem_cons.mp hx with rfl | hx
    · exact fit_str (by decide +kernel)
    · rw [List.mem_singleton.mp hx]
      exact fit_str ha
theorem tr_fit {m : Nat} : ∀ {n : Nat} {d : D}, IsTr m n d → Fit (3 * n + 1) d
  | 0, _, h => leaf_fit h
  | n + 1, d, h => by
    rcases h with h | ⟨a, rs, rfl, ha, _, hr⟩
    · exact (leaf_fit h).mono (by omega)
    · refine (fit_tup (n := 3 * n + 3) fun x hx => ?_).mono (by omega)
      simp only [List.mem_cons, List.not_mem_nil, or_false] at hx
      rcases hx with rfl | rfl | rfl
      · exact fit_str (by decide +kernel)
      · exact fit_str ha
      · refine fit_tup fun y hy => ?_
        obtain ⟨r, hr', rfl⟩ := List.mem_map.mp hy
        refine fit_tup (n := 3 * n + 1) fun z hz => ?_
        rcases List.mem_cons.mp hz with rfl | hz
        · exact fit_str (hr r hr').1
        · rw [List.mem_singleton.mp hz]
          exact tr_fit (hr r hr').2
theorem holds_giver {oo : Str} {ts : List Ti} {xs : List Wi} {most : Option Int} {n : Nat} {cs : Case} {w a : Str} {rs : List (Str × D)} :
    holdsV oo ts xs most (n + 1) cs (.tup [.str w, .str a, .tup (rs.map rwD)]) = ((nextV oo xs cs == some a) && (tiedB ts a (rs.map (·.1)) && rs.all fun r => holdsV oo ts xs most n (cs ++ [(a, r.1)]) r.2)) := by
  show ((nextV oo xs cs == some a) && (tiedB ts a ((rs.map rwD).map nmOf) && (rs.map rwD).all (rowV fun g t => holdsV oo ts xs most n (cs ++ [(a, g)]) t))) = _
  rw [List.map_map, List.all_map]
  rfl

end
end K80

namespace K80
open PySem PySem.Spec PyProof.Rows L2 Lk Evl Fx


local macro_rules | `(tactic| walk_at "sz") => `(tactic| first
  | exact Nat.le_of_ble_eq_true rfl
  | assumption
  | exact small_sz (Nat.le_of_ble_eq_true rfl)
  | (simp only [List.length_cons, List.length_nil, List.length_map, List.length_append]; first | omega | exact small_sz (by omega)))
local macro_rules | `(tactic| walk_at "x1") => `(tactic| first
  | with_reducible refine x_seq ?_
  | (with_reducible show wVar _ _ _); first | refine x_varF rfl ?_ | refine x_varO rfl ?_ | refine x_varV rfl ?_
  | with_reducible refine x_c ?_
  | with_reducible refine x_exf ?_
  | with_reducible refine x_excd ?_
  | (with_reducible show ∃ d1, Sl.cd (Sl.vw _) = some d1 ∧ _); refine x_excV rfl ?_
  | (with_reducible show ∃ d1, Sl.cd (Sl.own _) = some d1 ∧ _); refine x_excO rfl ?_
  | with_reducible refine x_binP ?_
  | with_reducible refine x_bin ?_
  | with_reducible refine x_adC ?_
  | with_reducible refine x_adN ?_
  | with_reducible refine x_lst ?_
  | with_reducible refine x_tup ?_
  | with_reducible refine x_lstO ?_
  | (with_reducible refine x_and (p := _ ≤ sizeLine) ?h ?_); (case h => walk_at "sz")
  | with_reducible refine x_callF ?_
  | with_reducible refine x_callL ?_
  | with_reducible refine x_listO ?_
  | with_reducible refine x_dstar ?_
  | with_reducible refine x_getN ?_
  | with_reducible refine x_ss ?_
  | with_reducible refine x_mulO ?_
  | with_reducible refine x_iZM ?_
  | (with_reducible show wCallU _ _ _ _ _); refine x_callU rfl ?_
  | with_reducible refine x_callV ?_
  | with_reducible refine x_join ?_
  | with_reducible refine x_waD ?_
  | with_reducible refine x_lc ?_
  | with_reducible refine x_lc2 ?_
  | with_reducible refine x_lenSets ?_
  | (with_reducible show wApp _ _ _ _); refine x_app rfl ?_
  | (with_reducible show wBinV _ _ _ _ _); refine x_binV rfl ?_
  | (with_reducible show wPopD _ _ _ _); refine x_popD rfl ?_
  | (with_reducible show wCatV _ _ _ _); refine x_catV rfl ?_
  | with_reducible refine x_slN2 ?_
  | with_reducible refine x_sortedSets ?_
  | with_reducible refine x_tplL ?_
  | with_reducible refine x_tplT ?_
  | with_reducible refine x_isB ?_
  | with_reducible refine x_r1 ?_
  | with_reducible refine x_r2 ?_
  | (with_reducible refine x_r1e ?h0 ?h1 ?_); (case h0 => omega); (case h1 => omega)
  | with_reducible refine x_iL ?_
  | with_reducible refine x_iT ?_
  | with_reducible refine x_iS ?_
  | with_reducible refine x_iE ?_
  | with_reducible refine x_iEe ?_
  | with_reducible refine x_yes ?_
  | with_reducible refine x_for ?_
  | (with_reducible show wLot _ [D.int _] _); (refine' x_lot (by assumption) ?h1 ?h2 ?h3 ?_); (case h1 => omega); (case h2 => first | decide | omega); (case h3 => first | decide | omega)
  | (with_reducible show ∃ o, _ = some (some (Sl.own o)) ∧ _); refine x_exO rfl ?_
  | with_reducible refine x_exo ?_
  | with_reducible refine x_ret ?_
  | with_reducible refine x_set ?_
  | with_reducible refine x_fin ?_
  | with_reducible refine x_fino ?_
  | (with_reducible refine x_and (p := _ < List.length _) ?h ?_); (case h => exact Nat.le_of_ble_eq_true rfl); (try dsimp only [List.set_cons_succ, List.set_cons_zero])
  | with_reducible refine x_next ?_
  | with_reducible refine x_retN ?_
  | with_reducible refine x_drop ?_
  | with_reducible refine x_asg ?_
  | (with_reducible refine x_gtp ?h ?_); (case h => rfl)
  | with_reducible refine x_gcons ?_
  | with_reducible refine x_gnil ?_
  | (with_reducible refine x_gn ?h ?_); (case h => exact Nat.le_of_ble_eq_true rfl); (try dsimp only [List.set_cons_succ, List.set_cons_zero])
  | with_reducible refine x_ifS ?_
  | with_reducible refine x_if ?_
  | with_reducible refine x_itT ?_
  | with_reducible refine x_itF ?_
  | with_reducible refine x_iteN ?_
  | with_reducible refine x_tru ?_
  | with_reducible refine x_tB ?_
  | with_reducible refine x_dtB ?_
  | with_reducible refine x_dtN ?_
  | with_reducible refine x_exb ?_
  | with_reducible refine x_exdb ?_
  | with_reducible refine x_tand ?_
  | with_reducible refine x_tor ?_
  | with_reducible refine x_tnot ?_
  | with_reducible refine x_and2 ?_
  | with_reducible refine x_or2 ?_
  | with_reducible refine x_not2 ?_
  | with_reducible refine x_chain ?_
  | with_reducible refine x_sub ?_
  | with_reducible refine x_addI ?_
  | (with_reducible refine x_addS ?h ?_); (case h => walk_at "sz")
  | (with_reducible refine x_addL ?h ?_); (case h => walk_at "sz")
  | (with_reducible refine x_addT ?h ?_); (case h => walk_at "sz")
  | with_reducible refine x_lt ?_
  | with_reducible refine x_le ?_
  | with_reducible refine x_gt ?_
  | with_reducible refine x_ge ?_
  | with_reducible refine x_ltS ?_
  | with_reducible refine x_eqI ?_
  | with_reducible refine x_neI ?_
  | with_reducible refine x_allSg ?_
  | with_reducible refine x_m0 ?_
  | with_reducible refine x_lstT ?_
  | with_reducible refine x_lstL ?_
  | with_reducible refine x_strB ?_
  | with_reducible refine x_strN ?_
  | with_reducible refine x_strS ?_
  | with_reducible refine x_isT ?_
  | with_reducible refine x_isI ?_
  | with_reducible refine x_neg ?_
  | with_reducible refine x_un ?_
  | (with_reducible refine x_pow ?h ?_); (case h => exact ⟨by decide, by decide +kernel⟩)
  | (with_reducible refine x_mod ?h ?_); (case h => first | decide | omega)
  | (with_reducible refine x_mul ?h ?_); (case h => exact mul_ok (by first | decide | omega) (by first | decide | omega))
  | (with_reducible refine x_div ?h ?_); (case h => exact div_ok (by first | decide | omega) (by first | decide | omega))
  | with_reducible refine x_ipA ?_
  | (with_reducible show wAugL _ _ _ _ _ _); refine x_augL rfl ?_
  | (with_reducible show wAug _ _ _ _ _); refine x_aug rfl ?_
  | (with_reducible show ∃ k' ds d, Sl.f (D.int _) = Sl.f (D.int k') ∧ _); refine x_augL1 rfl (by decide) rfl ?_
  | (with_reducible show ∃ k' j ds, Sl.f (D.int _) = Sl.f (D.int k') ∧ _ = some (some (Sl.own (O.lst ds))) ∧ ixN _ k' = some j ∧ _); refine x_setL1 rfl rfl ?_; (try dsimp only [List.set_cons_succ, List.set_cons_zero])
  | (with_reducible show ∃ ds j, _ = some (some (Sl.own (O.lst ds))) ∧ ixN _ _ = some j ∧ _); refine x_augL2 rfl rfl ?_; (try dsimp only [List.set_cons_succ, List.set_cons_zero])
  | (with_reducible show gSetL _ _ _ _ _); refine x_setL rfl ?_
  | (with_reducible show dIx (D.lst _) (D.int _) _); refine x_ixL rfl ?_
  | (with_reducible show dIx (D.tup _) (D.int _) _); refine x_ixT rfl ?_
  | with_reducible refine x_cb ?_
  | (with_reducible show wCB1 _ _ _ _); refine x_cb1 rfl rfl ?_
  | with_reducible refine x_fm ?_
  | with_reducible refine x_exl ?_
  | with_reducible refine x_ext ?_
  | with_reducible refine x_exs ?_
  | with_reducible refine x_exi ?_
  | with_reducible refine x_sl ?_
  | with_reducible refine x_slN ?_
  | with_reducible refine x_slS ?_
  | with_reducible refine x_frz ?_
  | with_reducible refine x_frL ?_
  | with_reducible refine x_revT ?_
  | with_reducible refine x_revL ?_
  | with_reducible refine x_splitO ?_
  | (with_reducible show wSlO _ _ _ _ _); refine x_slO rfl ?_
  | (with_reducible show ∃ ds2, _ = some (some (Sl.own (O.lst ds2))) ∧ _); refine x_exOl rfl ?_
  | with_reducible refine x_dictO ?_
  | with_reducible refine x_psC ?_
  | with_reducible refine x_psN ?_
  | with_reducible refine x_get ?_
  | (with_reducible show gSetSl _ _ _ _ _ _); refine x_setSl rfl ?_
  | with_reducible refine x_split ?_
  | with_reducible refine x_isN1 ?_
  | with_reducible refine x_isN0 rfl ?_
  | with_reducible refine x_iZ ?_
  | with_reducible refine x_zT ?_
  | with_reducible refine x_zL ?_
  | with_reducible refine x_stp ?_
  | with_reducible refine x_js ?_
  | with_reducible refine x_jsC ?_
  | with_reducible refine x_jsN ?_
  | with_reducible refine x_fmt ?_
  | with_reducible refine x_callFX ?_
  | (with_reducible refine x_glp ?h ?_); (case h => rfl)
  | with_reducible refine x_raiseR ?_
  | with_reducible refine x_row ?_
  | with_reducible refine x_lenL ?_
  | with_reducible refine x_lenT ?_
  | with_reducible refine x_lenD ?_
  | (with_reducible refine x_lenS ?h ?_); (case h => walk_at "sz")
  | with_reducible refine x_max ?_
  | with_reducible refine x_min ?_
  | with_reducible refine x_intI ?_
  | with_reducible refine x_intB ?_
  | (with_reducible refine x_isInt ?h ?_); (case h => first | assumption | exact part_ty (by assumption) | (intro _ hh; cases hh; done))
  | (with_reducible refine x_isBl ?h ?_); (case h => first | assumption | exact part_ty (by assumption) | (intro _ hh; cases hh; done))
  | (with_reducible refine x_isStr ?h ?_); (case h => first | assumption | exact part_ty (by assumption) | (intro _ hh; cases hh; done))
  | (with_reducible refine x_isTup ?h ?_); (case h => first | assumption | exact part_ty (by assumption) | (intro _ hh; cases hh; done))
  | (with_reducible refine x_isLst ?h ?_); (case h => first | assumption | exact part_ty (by assumption) | (intro _ hh; cases hh; done))
  | (with_reducible refine x_isDic ?h ?_); (case h => first | assumption | exact part_ty (by assumption) | (intro _ hh; cases hh; done))
  | (with_reducible refine x_itTe ?e ?_); (case e => rfl)
  | (with_reducible refine x_itFe ?e ?_); (case e => rfl)
  | with_reducible refine x_dnewO ?_
  | with_reducible refine x_dput ?_
  | with_reducible refine x_dix ?_
  | with_reducible refine x_sortedD ?_
  | with_reducible refine x_star ?_
  | with_reducible refine x_starT ?_
  | with_reducible refine x_frzD ?_
  | with_reducible refine x_sw ?_
  | with_reducible refine x_cnt ?_
  | with_reducible refine x_waC ?_
  | with_reducible refine x_waN ?_
  | with_reducible refine x_lenDD ?_
  | with_reducible refine x_allX ?_
  | (with_reducible show wFz _ _ _ _); refine x_fz rfl ?_
  | (with_reducible show wFzS _ _ _ _); refine x_fzS rfl ?_
  | (with_reducible show wFzO _ _ _ _); refine x_fzO rfl ?_
  | (with_reducible show wiK _ _ _); refine x_iK rfl ?_
  | (with_reducible show wiIt _ _ _); refine x_iIt rfl ?_
  | with_reducible refine x_iE1 ?_
  | with_reducible refine x_forR ?_
  | (with_reducible show wDIxV _ _ _ _); refine x_dixV rfl (cd_dicO _) ?_
  | (with_reducible show wDPop _ _ _ _); refine x_dpop rfl ?_
  | with_reducible refine x_pickO ?_
  | (with_reducible show wExt _ _ _ _); refine x_extO rfl ?_
  | with_reducible refine x_sortedR ?_
  | with_reducible refine x_sortedL ?_
  | with_reducible refine x_ixSt ?_
  | (with_reducible show wiVal _ _ _); refine x_iVal rfl ?_
  | with_reducible refine x_dictP ?_
  | with_reducible refine x_dictZip ?_
  | with_reducible refine x_revS ?_
  | with_reducible refine x_par ?_
  | (with_reducible show wIsiV _ _ _ _ _); refine x_isiV rfl ?_
  | ((with_reducible show _ ∧ _); refine And.intro (Nat.le_of_ble_eq_true rfl) ?_))
local macro_rules | `(tactic| walk_at "x") => `(tactic| repeat (walk_at "x1"))

section
variable {P : Program} {w : World} {K : PySem.W.Frag} {mg : Str → Option Value} {base : Heap} {tabs : List Addr}
/-! ### the program: above, in a ring -/
theorem getD_case (cs : Case) (x : Str) : getD ((cP cs).map (·.1)) ((cP cs).map (·.2)) (.inr x) = strO (look cs x) := by
  induction cs with
  | nil => rfl
  | cons p cs ih =>
    obtain ⟨a, b⟩ := p
    show (((((Sum.inr a : Key), D.str b) :: ((cP cs).map (·.1)).zip ((cP cs).map (·.2))).find? fun kv => decide (kv.1 = (Sum.inr x : Key))).map (·.2)).getD .non = strO (List.lookup x ((a, b) :: cs))
    rw [List.lookup_cons]
    by_cases h : x = a
    · subst h
      rw [beq_self_eq_true, List.find?_cons_of_pos (by simp)]
      rfl
    · rw [beq_false_of_ne h, List.find?_cons_of_neg (by simpa using fun e => h e.symm)]
      exact ih
theorem look_name {cs : Case} (ok : CsOk cs) {x g : Str} (h : look cs x = some g) : PyData.strOk x = true ∧ PyData.strOk g = true := ⟨name_cp (ok.a _ (look_mem h)), name_cp (ok.b _ (look_mem h))⟩
theorem goes_name {cs : Case} (ok : CsOk cs) {n : Nat} {a y : Str} (h : goes cs (n + 1) a = some y) : PyData.strOk y = true := by
  obtain ⟨p, hp, rfl⟩ := List.mem_map.mp (goes_val h)
  exact name_cp (ok.b p hp)
def wAbove : WFn := fun ds Q => ∃ (cs : Case) (a : Str), ds = [cD cs, .str a] ∧ CsOk cs ∧ PyData.strOk a = true ∧ ∀ l : List Str, l.length ≤ 6 → (∀ y ∈ l, PyData.strOk y = true) → (∀ y, y ∈ l ↔ Abv cs a y) → Q (.f (.lst (l.map D.str)))
theorem mono__above : MonoF wAbove := fun ds Q Q' i ⟨cs, a, h1, h2, h3, q⟩ => ⟨cs, a, h1, h2, h3, fun l a b c => i _ (q l a b c)⟩
theorem ok_above (T : Txt K mg) (A : At K mg "_above" s__above ["settled", "actor"]) : Cal P w K mg base 1 "_above" (spW K tabs (liftF wAbove)) := by
  refine A.of fun f fd F => fx_fnF F sc__above (fun ds Q ⟨_, _, h, _⟩ => by rw [h]; rfl) fun cdv A outer s H E TT P0 σ0 hcd hr => ⟨_, (gss_cons (gs_setE (i := 2) sc__above.nd rfl (Or.inl rfl) (ge_lstOD gd_nil))
      (gss_cons (gs_setE (i := 3) sc__above.nd rfl (Or.inl rfl) (ge_get hr.u65 (GE.of_pure (gp_var (pv 0))) (GE.of_pure (gp_var (pv 1))) ⟨rfl, rfl, rfl, rfl⟩))
      (gss_cons (gs_while PassesOwn.never (GW.gt (gw_and (gt_cmpP opx_notN (gp_var (pv 3)) gp_non (nomark _)) (gw_and1 (gt_cmpP (opx_nin hr.u65) (gp_var (pv 3)) (gp_var (pv 2)) (by rfl)))))
      (gss_cons (gs_append (pv 2) (gd_cons (GE.of_pure (gp_var (pv 3))) gd_nil))
      (gss_one (gs_setE (i := 3) sc__above.nd rfl (Or.inl rfl) (ge_getN hr.u65 (GE.of_pure (gp_var (pv 0))) (GE.of_pure (gp_var (pv 3))) ⟨rfl, rfl, rfl, rfl⟩)))))
      (gss_one (gs_ret (ge_move (pv 2))))))), fun ds Q ⟨cs, a, e, ok, ha, q⟩ => ?_⟩
  subst e
  have hcl := ok.len
  refine x_start (e := [some (.f (cD cs)), some (.f (.str a)), none, none]) rfl ?_
  walk_at "x"
  refine ⟨_, _, rfl, ?_⟩
  walk_at "x"
  refine ⟨.inr a, rfl, ?_⟩
  rw [getD_case]
  walk_at "x"
  refine ⟨fun m e => ∃ (k : Nat) (found : List Str), m + found.length = 7 ∧ Gone cs a k found ∧ (∀ y ∈ found, PyData.strOk y = true) ∧ e = [some (.f (cD cs)), some (.f (.str a)), some (.own (.lst (found.map D.str))), some (.f (strO (goes cs (k + 1) a)))], ⟨7, 0, [], rfl, ⟨fun y => ⟨nofun, fun ⟨n, h, _⟩ => absurd h (Nat.not_lt_zero n)⟩, .nil⟩, nofun, rfl⟩, ?_⟩
  rintro m e ⟨k, found, hm, g, so, rfl⟩
  have gl := gone_len g
  cases hg : goes cs (k + 1) a with
  | none =>
    dsimp only [strO]
    walk_at "x"
    exact ⟨_, _, rfl, rfl, nofun, Nat.le_of_ble_eq_true rfl, q found (by omega) so (gone_end g hg)⟩
  | some z =>
    have zn := goes_name ok hg
    dsimp only [strO]
    walk_at "x"
    refine x_ninL (okPy_str zn) (okPy_strs so) ?_
    rw [mem_strs]
    cases hc : found.contains z with
    | true =>
      walk_at "x"
      exact ⟨_, _, rfl, rfl, nofun, Nat.le_of_ble_eq_true rfl, q found (by omega) so (gone_ring g hg (by simpa using hc))⟩
    | false =>
      have hz : z ∉ found := by simpa using hc
      have g2 := gone_step g hg hz
      have gl2 := gone_len g2
      rw [List.length_append, List.length_singleton] at gl2
      walk_at "x"
      refine x_appE rfl (by rw [List.length_map]; omega) ?_
      walk_at "x"
      refine ⟨_, _, rfl, ?_⟩
      walk_at "x"
      refine ⟨some (.inr z), rfl, ?_⟩
      rw [show getO ((cP cs).map (·.1)) ((cP cs).map (·.2)) (some (.inr z)) = strO (look cs z) from getD_case cs z]
      walk_at "x"
      refine ⟨m - 1, by omega, k + 1, found ++ [z], by rw [List.length_append, List.length_singleton]; omega, g2, fun y hy => ?_, ?_⟩
      · rcases List.mem_append.mp hy with hy | hy
        · exact so y hy
        · rw [List.mem_singleton.mp hy]; exact zn
      · rw [List.map_append, show goes cs (k + 1 + 1) a = (goes cs (k + 1) a).bind (look cs) from rfl, hg]
        rfl
def wRing : WFn := fun ds Q => ∃ (cs : Case) (a : Str), ds = [cD cs, .str a] ∧ CsOk cs ∧ PyData.strOk a = true ∧ Q (.f (.bl (ringV cs a)))
theorem mono_is_in_ring : MonoF wRing := fun ds Q Q' i ⟨cs, a, h1, h2, h3, q⟩ => ⟨cs, a, h1, h2, h3, i _ q⟩
theorem ok_ring (T : Txt K mg) (c__above : Cal P w K mg base 1 "_above" (spW K tabs (liftF wAbove))) (A : At K mg "is_in_ring" s_is_in_ring ["settled", "actor"]) : Cal P w K mg base 2 "is_in_ring" (spW K tabs (liftF wRing)) := by
  refine A.of fun f fd F => fx_fnF F sc_is_in_ring (fun ds Q ⟨_, _, h, _⟩ => by rw [h]; rfl) fun cdv A outer s H E TT P0 σ0 hcd hr => ⟨_, (gss_one (gs_ret (ge_cmp (opx_in hr.u65) (GE.of_pure (gp_var (pv 1))) (ge_callF c__above hr (by first | decide | omega) rfl rfl rfl mono__above (gd_cons (GE.of_pure (gp_var (pv 0))) (gd_cons (GE.of_pure (gp_var (pv 1))) gd_nil))) (by rfl)))), fun ds Q ⟨cs, a, e, ok, ha, q⟩ => ?_⟩
  subst e
  refine x_start (e := [some (.f (cD cs)), some (.f (.str a))]) rfl ?_
  walk_at "x"
  refine ⟨cs, a, rfl, ok, ha, fun l ll so mem => ?_⟩
  walk_at "x"
  refine x_inL (okPy_str ha) (okPy_strs so) ?_
  rw [mem_strs]
  have e : l.contains a = ringV cs a := by
    unfold ringV
    rw [Bool.eq_iff_iff, List.contains_iff_mem, mem a]
    exact (@decide_eq_true_iff _ (_)).symm
  rw [e]
  walk_at "x"
  exact q

end
end K80

namespace K80
open PySem PySem.Spec PyProof.Rows L2 Lk Evl Fx


local macro_rules | `(tactic| walk_at "sz") => `(tactic| first
  | exact Nat.le_of_ble_eq_true rfl
  | assumption
  | exact small_sz (Nat.le_of_ble_eq_true rfl)
  | (simp only [List.length_cons, List.length_nil, List.length_map, List.length_append]; first | omega | exact small_sz (by omega)))
local macro_rules | `(tactic| walk_at "x1") => `(tactic| first
  | with_reducible refine x_seq ?_
  | (with_reducible show wVar _ _ _); first | refine x_varF rfl ?_ | refine x_varO rfl ?_ | refine x_varV rfl ?_
  | with_reducible refine x_c ?_
  | with_reducible refine x_exf ?_
  | with_reducible refine x_excd ?_
  | (with_reducible show ∃ d1, Sl.cd (Sl.vw _) = some d1 ∧ _); refine x_excV rfl ?_
  | (with_reducible show ∃ d1, Sl.cd (Sl.own _) = some d1 ∧ _); refine x_excO rfl ?_
  | with_reducible refine x_binP ?_
  | with_reducible refine x_bin ?_
  | with_reducible refine x_adC ?_
  | with_reducible refine x_adN ?_
  | with_reducible refine x_lst ?_
  | with_reducible refine x_tup ?_
  | with_reducible refine x_lstO ?_
  | (with_reducible refine x_and (p := _ ≤ sizeLine) ?h ?_); (case h => walk_at "sz")
  | with_reducible refine x_callF ?_
  | with_reducible refine x_callL ?_
  | with_reducible refine x_listO ?_
  | with_reducible refine x_dstar ?_
  | with_reducible refine x_getN ?_
  | with_reducible refine x_ss ?_
  | with_reducible refine x_mulO ?_
  | with_reducible refine x_iZM ?_
  | (with_reducible show wCallU _ _ _ _ _); refine x_callU rfl ?_
  | with_reducible refine x_callV ?_
  | with_reducible refine x_join ?_
  | with_reducible refine x_waD ?_
  | with_reducible refine x_lc ?_
  | with_reducible refine x_lc2 ?_
  | with_reducible refine x_lenSets ?_
  | (with_reducible show wApp _ _ _ _); refine x_app rfl ?_
  | (with_reducible show wBinV _ _ _ _ _); refine x_binV rfl ?_
  | (with_reducible show wPopD _ _ _ _); refine x_popD rfl ?_
  | (with_reducible show wCatV _ _ _ _); refine x_catV rfl ?_
  | with_reducible refine x_slN2 ?_
  | with_reducible refine x_sortedSets ?_
  | with_reducible refine x_tplL ?_
  | with_reducible refine x_tplT ?_
  | with_reducible refine x_isB ?_
  | with_reducible refine x_r1 ?_
  | with_reducible refine x_r2 ?_
  | (with_reducible refine x_r1e ?h0 ?h1 ?_); (case h0 => omega); (case h1 => omega)
  | with_reducible refine x_iL ?_
  | with_reducible refine x_iT ?_
  | with_reducible refine x_iS ?_
  | with_reducible refine x_iE ?_
  | with_reducible refine x_iEe ?_
  | with_reducible refine x_yes ?_
  | with_reducible refine x_for ?_
  | (with_reducible show wLot _ [D.int _] _); (refine' x_lot (by assumption) ?h1 ?h2 ?h3 ?_); (case h1 => omega); (case h2 => first | decide | omega); (case h3 => first | decide | omega)
  | (with_reducible show ∃ o, _ = some (some (Sl.own o)) ∧ _); refine x_exO rfl ?_
  | with_reducible refine x_exo ?_
  | with_reducible refine x_ret ?_
  | with_reducible refine x_set ?_
  | with_reducible refine x_fin ?_
  | with_reducible refine x_fino ?_
  | (with_reducible refine x_and (p := _ < List.length _) ?h ?_); (case h => exact Nat.le_of_ble_eq_true rfl); (try dsimp only [List.set_cons_succ, List.set_cons_zero])
  | with_reducible refine x_next ?_
  | with_reducible refine x_retN ?_
  | with_reducible refine x_drop ?_
  | with_reducible refine x_asg ?_
  | (with_reducible refine x_gtp ?h ?_); (case h => rfl)
  | with_reducible refine x_gcons ?_
  | with_reducible refine x_gnil ?_
  | (with_reducible refine x_gn ?h ?_); (case h => exact Nat.le_of_ble_eq_true rfl); (try dsimp only [List.set_cons_succ, List.set_cons_zero])
  | with_reducible refine x_ifS ?_
  | with_reducible refine x_if ?_
  | with_reducible refine x_itT ?_
  | with_reducible refine x_itF ?_
  | with_reducible refine x_iteN ?_
  | with_reducible refine x_tru ?_
  | with_reducible refine x_tB ?_
  | with_reducible refine x_dtB ?_
  | with_reducible refine x_dtN ?_
  | with_reducible refine x_exb ?_
  | with_reducible refine x_exdb ?_
  | with_reducible refine x_tand ?_
  | with_reducible refine x_tor ?_
  | with_reducible refine x_tnot ?_
  | with_reducible refine x_and2 ?_
  | with_reducible refine x_or2 ?_
  | with_reducible refine x_not2 ?_
  | with_reducible refine x_chain ?_
  | with_reducible refine x_sub ?_
  | with_reducible refine x_addI ?_
  | (with_reducible refine x_addS ?h ?_); (case h => walk_at "sz")
  | (with_reducible refine x_addL ?h ?_); (case h => walk_at "sz")
  | (with_reducible refine x_addT ?h ?_); (case h => walk_at "sz")
  | with_reducible refine x_lt ?_
  | with_reducible refine x_le ?_
  | with_reducible refine x_gt ?_
  | with_reducible refine x_ge ?_
  | with_reducible refine x_ltS ?_
  | with_reducible refine x_eqI ?_
  | with_reducible refine x_neI ?_
  | with_reducible refine x_allSg ?_
  | with_reducible refine x_m0 ?_
  | with_reducible refine x_lstT ?_
  | with_reducible refine x_lstL ?_
  | with_reducible refine x_strB ?_
  | with_reducible refine x_strN ?_
  | with_reducible refine x_strS ?_
  | with_reducible refine x_isT ?_
  | with_reducible refine x_isI ?_
  | with_reducible refine x_neg ?_
  | with_reducible refine x_un ?_
  | (with_reducible refine x_pow ?h ?_); (case h => exact ⟨by decide, by decide +kernel⟩)
  | (with_reducible refine x_mod ?h ?_); (case h => first | decide | omega)
  | (with_reducible refine x_mul ?h ?_); (case h => exact mul_ok (by first | decide | omega) (by first | decide | omega))
  | (with_reducible refine x_div ?h ?_); (case h => exact div_ok (by first | decide | omega) (by first | decide | omega))
  | with_reducible refine x_ipA ?_
  | (with_reducible show wAugL _ _ _ _ _ _); refine x_augL rfl ?_
  | (with_reducible show wAug _ _ _ _ _); refine x_aug rfl ?_
  | (with_reducible show ∃ k' ds d, Sl.f (D.int _) = Sl.f (D.int k') ∧ _); refine x_augL1 rfl (by decide) rfl ?_
  | (with_reducible show ∃ k' j ds, Sl.f (D.int _) = Sl.f (D.int k') ∧ _ = some (some (Sl.own (O.lst ds))) ∧ ixN _ k' = some j ∧ _); refine x_setL1 rfl rfl ?_; (try dsimp only [List.set_cons_succ, List.set_cons_zero])
  | (with_reducible show ∃ ds j, _ = some (some (Sl.own (O.lst ds))) ∧ ixN _ _ = some j ∧ _); refine x_augL2 rfl rfl ?_; (try dsimp only [List.set_cons_succ, List.set_cons_zero])
  | (with_reducible show gSetL _ _ _ _ _); refine x_setL rfl ?_
  | (with_reducible show dIx (D.lst _) (D.int _) _); refine x_ixL rfl ?_
  | (with_reducible show dIx (D.tup _) (D.int _) _); refine x_ixT rfl ?_
  | with_reducible refine x_cb ?_
  | (with_reducible show wCB1 _ _ _ _); refine x_cb1 rfl rfl ?_
  | with_reducible refine x_fm ?_
  | with_reducible refine x_exl ?_
  | with_reducible refine x_ext ?_
  | with_reducible refine x_exs ?_
  | with_reducible refine x_exi ?_
  | with_reducible refine x_sl ?_
  | with_reducible refine x_slN ?_
  | with_reducible refine x_slS ?_
  | with_reducible refine x_frz ?_
  | with_reducible refine x_frL ?_
  | with_reducible refine x_revT ?_
  | with_reducible refine x_revL ?_
  | with_reducible refine x_splitO ?_
  | (with_reducible show wSlO _ _ _ _ _); refine x_slO rfl ?_
  | (with_reducible show ∃ ds2, _ = some (some (Sl.own (O.lst ds2))) ∧ _); refine x_exOl rfl ?_
  | with_reducible refine x_dictO ?_
  | with_reducible refine x_psC ?_
  | with_reducible refine x_psN ?_
  | with_reducible refine x_get ?_
  | (with_reducible show gSetSl _ _ _ _ _ _); refine x_setSl rfl ?_
  | with_reducible refine x_split ?_
  | with_reducible refine x_isN1 ?_
  | with_reducible refine x_isN0 rfl ?_
  | with_reducible refine x_iZ ?_
  | with_reducible refine x_zT ?_
  | with_reducible refine x_zL ?_
  | with_reducible refine x_stp ?_
  | with_reducible refine x_js ?_
  | with_reducible refine x_jsC ?_
  | with_reducible refine x_jsN ?_
  | with_reducible refine x_fmt ?_
  | with_reducible refine x_callFX ?_
  | (with_reducible refine x_glp ?h ?_); (case h => rfl)
  | with_reducible refine x_raiseR ?_
  | with_reducible refine x_row ?_
  | with_reducible refine x_lenL ?_
  | with_reducible refine x_lenT ?_
  | with_reducible refine x_lenD ?_
  | (with_reducible refine x_lenS ?h ?_); (case h => walk_at "sz")
  | with_reducible refine x_max ?_
  | with_reducible refine x_min ?_
  | with_reducible refine x_intI ?_
  | with_reducible refine x_intB ?_
  | (with_reducible refine x_isInt ?h ?_); (case h => first | assumption | exact part_ty (by assumption) | (intro _ hh; cases hh; done))
  | (with_reducible refine x_isBl ?h ?_); (case h => first | assumption | exact part_ty (by assumption) | (intro _ hh; cases hh; done))
  | (with_reducible refine x_isStr ?h ?_); (case h => first | assumption | exact part_ty (by assumption) | (intro _ hh; cases hh; done))
  | (with_reducible refine x_isTup ?h ?_); (case h => first | assumption | exact part_ty (by assumption) | (intro _ hh; cases hh; done))
  | (with_reducible refine x_isLst ?h ?_); (case h => first | assumption | exact part_ty (by assumption) | (intro _ hh; cases hh; done))
  | (with_reducible refine x_isDic ?h ?_); (case h => first | assumption | exact part_ty (by assumption) | (intro _ hh; cases hh; done))
  | (with_reducible refine x_itTe ?e ?_); (case e => rfl)
  | (with_reducible refine x_itFe ?e ?_); (case e => rfl)
  | with_reducible refine x_dnewO ?_
  | with_reducible refine x_dput ?_
  | with_reducible refine x_dix ?_
  | with_reducible refine x_sortedD ?_
  | with_reducible refine x_star ?_
  | with_reducible refine x_starT ?_
  | with_reducible refine x_frzD ?_
  | with_reducible refine x_sw ?_
  | with_reducible refine x_cnt ?_
  | with_reducible refine x_waC ?_
  | with_reducible refine x_waN ?_
  | with_reducible refine x_lenDD ?_
  | with_reducible refine x_allX ?_
  | (with_reducible show wFz _ _ _ _); refine x_fz rfl ?_
  | (with_reducible show wFzS _ _ _ _); refine x_fzS rfl ?_
  | (with_reducible show wFzO _ _ _ _); refine x_fzO rfl ?_
  | (with_reducible show wiK _ _ _); refine x_iK rfl ?_
  | (with_reducible show wiIt _ _ _); refine x_iIt rfl ?_
  | with_reducible refine x_iE1 ?_
  | with_reducible refine x_forR ?_
  | (with_reducible show wDIxV _ _ _ _); refine x_dixV rfl (cd_dicO _) ?_
  | (with_reducible show wDPop _ _ _ _); refine x_dpop rfl ?_
  | with_reducible refine x_pickO ?_
  | (with_reducible show wExt _ _ _ _); refine x_extO rfl ?_
  | with_reducible refine x_sortedR ?_
  | with_reducible refine x_sortedL ?_
  | with_reducible refine x_ixSt ?_
  | (with_reducible show wiVal _ _ _); refine x_iVal rfl ?_
  | with_reducible refine x_dictP ?_
  | with_reducible refine x_dictZip ?_
  | with_reducible refine x_revS ?_
  | with_reducible refine x_par ?_
  | (with_reducible show wIsiV _ _ _ _ _); refine x_isiV rfl ?_
  | ((with_reducible show _ ∧ _); refine And.intro (Nat.le_of_ble_eq_true rfl) ?_))
local macro_rules | `(tactic| walk_at "x") => `(tactic| repeat (walk_at "x1"))

section
variable {P : Program} {w : World} {K : PySem.W.Frag} {mg : Str → Option Value} {base : Heap} {tabs : List Addr}
/-! ### the program: who lacks time -/
def wBears : WFn := fun ds Q => ∃ (t : Ti) (b : List Wi), ds = [t.d, .lst (b.map Wi.d)] ∧ b.length ≤ 6 ∧ Q (.f (.bl (bearB t b)))
theorem mono__bears : MonoF wBears := fun ds Q Q' i ⟨t, b, h1, h2, q⟩ => ⟨t, b, h1, h2, i _ q⟩
theorem ok_bears (T : Txt K mg) (A : At K mg "_bears" s__bears ["tie", "wishes"]) : Cal P w K mg base 1 "_bears" (spW K tabs (liftF wBears)) := by
  refine A.of fun f fd F => fx_fnF F sc__bears (fun ds Q ⟨_, _, h, _⟩ => by rw [h]; rfl) fun cdv A outer s H E TT P0 σ0 hcd hr => ⟨_, (gss_one (gs_ret (ge_cbB (cax_all rfl) (by rfl) T.z_all (by decide +kernel) (gd_cons (ge_frz (ge_lcR (own := [("wish", 2)]) (t := .name 2) rfl sc__bears.nd (gi_list (GE.of_pure (gp_var (pv 1)))) (blkOk_by (own := [("wish", 2)]) (N := ["tie", "wishes", "wish"]) (sc := defScope s__bears) (by decide +kernel)) (fun _ _ _ _ _ => (pg_name (i := 2) sc__bears.nd rfl (Or.inl rfl))) (fun _ _ _ _ _ => (ge_and (GE.of_pure (gp_cmp opx_le (gp_ix ixx (gp_var (pv 0)) gp_int (fun _ _ => rfl)) (gp_ix ixx (gp_var (pv 2)) gp_int (fun _ _ => rfl)) (nomark _))) (ge_one (GE.of_pure (gp_cmp opx_le (gp_ix ixx (gp_var (pv 2)) gp_int (fun _ _ => rfl)) (gp_ix ixx (gp_var (pv 0)) gp_int (fun _ _ => rfl)) (nomark _)))))) (by decide) (mem1 rfl) (mem1 (Nat.le_of_ble_eq_true rfl)))) gd_nil)))), fun ds Q ⟨t, b, e, bl, q⟩ => ?_⟩
  subst e
  refine x_start (e := [some (.f (.tup [.str t.a, .str t.b, .int t.s, .int t.u])), some (.f (.lst (b.map Wi.d))), none]) rfl ?_
  walk_at "x"
  let bt : Wi → Bool := fun x => decide (t.s ≤ x.s) && decide (x.u ≤ t.u)
  refine ⟨by rw [List.length_map]; omega, fun i acc e => acc = ((b.take i).map bt).map D.bl ∧ ∃ x2, e = [some (.f (.tup [.str t.a, .str t.b, .int t.s, .int t.u])), some (.f (.lst (b.map Wi.d))), x2], ⟨rfl, _, rfl⟩, ?_, ?_⟩
  · rintro i d acc e hd ⟨rfl, x2, rfl⟩
    rw [List.getElem?_map] at hd
    obtain ⟨x, hx, rfl⟩ := Option.map_eq_some_iff.mp hd
    refine ⟨_, rfl, ?_⟩
    dsimp only [List.map_cons, List.map_nil, wipeE, setE, Tgt.js, List.set_cons_zero, List.set_cons_succ]
    rw [show x.d = .tup [.str x.a, x.p, .int x.s, .int x.u] from rfl]
    walk_at "x"
    refine x_ite (fun h3 => ?_) (fun h3 => ?_)
    · walk_at "x"
      exact ⟨by rw [take_snoc hx, List.map_append, List.map_append]; show _ = _ ++ [D.bl (decide (t.s ≤ x.s) && decide (x.u ≤ t.u))]; rw [h3, Bool.true_and], _, rfl⟩
    · walk_at "x"
      exact ⟨by rw [take_snoc hx, List.map_append, List.map_append]; show _ = _ ++ [D.bl (decide (t.s ≤ x.s) && decide (x.u ≤ t.u))]; rw [h3, Bool.false_and], _, rfl⟩
  rintro acc e ⟨rfl, x2, rfl⟩
  rw [List.length_map, List.take_length]
  try dsimp only [List.map_cons, List.map_nil, wipeE, List.set_cons_zero, List.set_cons_succ]
  walk_at "x"
  refine x_all ?_
  rw [List.all_map, show (id ∘ bt) = bt from rfl]
  walk_at "x"
  exact q
def wLacks : WFn := fun ds Q => ∃ (oo : Str) (ts : List Ti) (xs : List Wi) (cs : Case) (a g : Str), ds = [trustD oo ts xs, cD cs, .str a] ∧ TrOk oo ts xs ∧ CsOk cs ∧ look cs a = some g ∧ Q (.f (.bl (timeV ts xs cs a g)))
theorem mono_lacks_time : MonoF wLacks := fun ds Q Q' i ⟨oo, ts, xs, cs, a, g, h1, h2, h3, h4, q⟩ => ⟨oo, ts, xs, cs, a, g, h1, h2, h3, h4, i _ q⟩
theorem borne_eq {cs : Case} {a : Str} {x : Wi} : borneB cs a x = true ↔ Reach cs x.a a := @decide_eq_true_iff _ (_)
theorem ok_lacks (T : Txt K mg) (c__above : Cal P w K mg base 1 "_above" (spW K tabs (liftF wAbove))) (c__bears : Cal P w K mg base 1 "_bears" (spW K tabs (liftF wBears))) (A : At K mg "lacks_time" s_lacks_time ["trust", "settled", "actor"]) : Cal P w K mg base 2 "lacks_time" (spW K tabs (liftF wLacks)) := by
  refine A.of fun f fd F => fx_fnF F sc_lacks_time (fun ds Q ⟨_, _, _, _, _, _, h, _⟩ => by rw [h]; rfl) fun cdv A outer s H E TT P0 σ0 hcd hr => ⟨_, (gss_cons (gs_setE (i := 3) sc_lacks_time.nd rfl (Or.inr rfl) (ge_frz (ge_lcR1 (own := [("wish", 4)]) (t := .name 4) rfl sc_lacks_time.nd (gi_tup (GE.of_pure (gp_ix ixx (gp_var (pv 0)) (gp_k T.g_WISHES rfl) (fun _ _ => rfl)))) (blkOk_by (own := [("wish", 4)]) (N := ["trust", "settled", "actor", "borne", "wish", "ties", "tie"]) (sc := defScope s_lacks_time) (by decide +kernel)) (fun _ _ _ _ _ => (pg_name (i := 4) sc_lacks_time.nd rfl (Or.inl rfl))) (fun _ _ _ _ _ => (GW.gt (gw_or (gt_cmpP (opx_eq hr.units) (gp_ix ixx (gp_var (pv 4)) gp_int (fun _ _ => rfl)) (gp_var (pv 2)) (nomark _)) (gw_or1 (gt_cmp (opx_in hr.u65) (GE.of_pure (gp_var (pv 2))) (ge_callF c__above hr (by first | decide | omega) rfl rfl rfl mono__above (gd_cons (GE.of_pure (gp_var (pv 1))) (gd_cons (GE.of_pure (gp_ix ixx (gp_var (pv 4)) gp_int (fun _ _ => rfl))) gd_nil))) (by rfl)))))) (fun _ _ _ _ _ => (GE.of_pure (gp_var (pv 4)))) (by decide) (mem1 rfl) (mem1 (Nat.le_of_ble_eq_true rfl)))))
      (gss_cons (gs_lcFR1 (i := 5) (own := [("tie", 6)]) (t := .name 6) rfl sc_lacks_time.nd rfl rfl (sw_true rfl rfl rfl (by decide +kernel)) (gi_tup (GE.of_pure (gp_ix ixx (gp_var (pv 0)) (gp_k T.g_TIES rfl) (fun _ _ => rfl)))) (blkOk_by (own := [("tie", 6)]) (N := ["trust", "settled", "actor", "borne", "wish", "ties", "tie"]) (sc := defScope s_lacks_time) (by decide +kernel)) (fun _ _ _ _ _ => (pg_name (i := 6) sc_lacks_time.nd rfl (Or.inl rfl))) (fun _ _ _ _ _ => (gt_cmp (opx_eq hr.units) (ge_sl (GE.of_pure (gp_var (pv 6))) go_none (go_some (GE.of_pure gp_int))) (ge_tupD (gd_cons (ge_dix (u1 hr) (GE.of_pure (gp_var (pv 1))) (GE.of_pure (gp_var (pv 2))) (fun _ _ => rfl)) (gd_cons (GE.of_pure (gp_var (pv 2))) gd_nil))) (nomark _))) (fun _ _ _ _ _ => (GE.of_pure (gp_var (pv 6)))) (by decide) (mem1 rfl) (mem1 (Nat.le_of_ble_eq_true rfl)))
      (gss_one (gs_ret (ge_not (ge_cbB (cax_any rfl) (by rfl) T.z_any (by decide +kernel) (gd_cons (ge_frz (ge_lcR (own := [("tie", 6)]) (t := .name 6) rfl sc_lacks_time.nd (gi_list (GE.of_pure (gp_var (pv 5)))) (blkOk_by (own := [("tie", 6)]) (N := ["trust", "settled", "actor", "borne", "wish", "ties", "tie"]) (sc := defScope s_lacks_time) (by decide +kernel)) (fun _ _ _ _ _ => (pg_name (i := 6) sc_lacks_time.nd rfl (Or.inl rfl))) (fun _ _ _ _ _ => (ge_callF c__bears hr (by first | decide | omega) rfl rfl rfl mono__bears (gd_cons (GE.of_pure (gp_var (pv 6))) (gd_cons (GE.of_pure (gp_var (pv 3))) gd_nil)))) (by decide) (mem1 rfl) (mem1 (Nat.le_of_ble_eq_true rfl)))) gd_nil))))))), fun ds Q ⟨oo, ts, xs, cs, a, g, e, tr, ok, lk, q⟩ => ?_⟩
  subst e
  have hx6 := tr.x6
  have tl := tr.tl
  obtain ⟨ha, hg⟩ := look_name ok lk
  refine x_start (e := [some (.f (.tup [.str oo, .tup (ts.map Ti.d), .tup (xs.map Wi.d)])), some (.f (cD cs)), some (.f (.str a)), none, none, none, none]) rfl ?_
  walk_at "x"
  refine ⟨by rw [List.length_map]; omega, fun i acc e => acc = ((xs.take i).filter (borneB cs a)).map Wi.d ∧ ∃ x4, e = [some (.f (.tup [.str oo, .tup (ts.map Ti.d), .tup (xs.map Wi.d)])), some (.f (cD cs)), some (.f (.str a)), none, x4, none, none], ⟨rfl, _, rfl⟩, ?_, ?_⟩
  · rintro i d acc e hd ⟨rfl, x4, rfl⟩
    rw [List.getElem?_map] at hd
    obtain ⟨x, hx, rfl⟩ := Option.map_eq_some_iff.mp hd
    have xok := tr.hxs x (List.mem_of_getElem? hx)
    have yes : Reach cs x.a a → ((xs.take i).filter (borneB cs a)).map Wi.d ++ [x.d] = ((xs.take (i + 1)).filter (borneB cs a)).map Wi.d := fun h => by
      rw [take_snoc hx, List.filter_append, List.filter_cons_of_pos (borne_eq.mpr h), List.filter_nil, List.map_append]
      rfl
    have no : ¬ Reach cs x.a a → ((xs.take i).filter (borneB cs a)).map Wi.d = ((xs.take (i + 1)).filter (borneB cs a)).map Wi.d := fun h => by
      rw [take_snoc hx, List.filter_append, List.filter_cons_of_neg (fun k => h (borne_eq.mp k)), List.filter_nil, List.append_nil]
    rw [show x.d = .tup [.str x.a, x.p, .int x.s, .int x.u] from rfl] at yes ⊢
    refine ⟨_, rfl, ?_⟩
    dsimp only [List.map_cons, List.map_nil, wipeE, setE, Tgt.js, List.set_cons_zero, List.set_cons_succ]
    walk_at "x"
    refine x_eqD (okPy_str (name_cp xok.a)) (okPy_str ha) ?_
    rw [eq_strs]
    cases hc : x.a == a with
    | true =>
      walk_at "x"
      exact ⟨yes (reach_abv.mpr (.inl (eq_of_beq hc))), _, rfl⟩
    | false =>
      walk_at "x"
      refine ⟨cs, x.a, rfl, ok, name_cp xok.a, fun l ll so mem => ?_⟩
      walk_at "x"
      refine x_inL (okPy_str ha) (okPy_strs so) ?_
      rw [mem_strs]
      cases hl : l.contains a with
      | true =>
        walk_at "x"
        exact ⟨yes (reach_abv.mpr (.inr ((mem a).mp (by simpa using hl)))), _, rfl⟩
      | false =>
        walk_at "x"
        refine ⟨no fun k => ?_, _, rfl⟩
        rcases reach_abv.mp k with e | e
        · rw [e, beq_self_eq_true] at hc; cases hc
        · have := (mem a).mpr e
          rw [List.contains_iff_mem.mpr this] at hl
          cases hl
  rintro acc e ⟨rfl, x4, rfl⟩
  rw [List.length_map, List.take_length]
  have bl : (xs.filter (borneB cs a)).length ≤ 6 := Nat.le_trans (List.length_filter_le ..) hx6
  unfold timeV at q
  generalize xs.filter (borneB cs a) = b at bl q
  try dsimp only [List.map_cons, List.map_nil, wipeE, List.set_cons_zero, List.set_cons_succ]
  walk_at "x"
  let hit : Ti → Bool := fun t => (t.a == g) && (t.b == a)
  refine ⟨by rw [List.length_map]; omega, fun i acc e => acc = ((ts.take i).filter hit).map Ti.d ∧ ∃ x6, e = [some (.f (.tup [.str oo, .tup (ts.map Ti.d), .tup (xs.map Wi.d)])), some (.f (cD cs)), some (.f (.str a)), some (.f (.lst (b.map Wi.d))), none, none, x6], ⟨rfl, _, rfl⟩, ?_, ?_⟩
  · rintro i d acc e hd ⟨rfl, x6, rfl⟩
    rw [List.getElem?_map] at hd
    obtain ⟨t, ht, rfl⟩ := Option.map_eq_some_iff.mp hd
    have okt := tr.hts t (List.mem_of_getElem? ht)
    refine ⟨_, rfl, ?_⟩
    dsimp only [List.map_cons, List.map_nil, wipeE, setE, Tgt.js, List.set_cons_zero, List.set_cons_succ]
    rw [show t.d = .tup [.str t.a, .str t.b, .int t.s, .int t.u] from rfl]
    walk_at "x"
    refine x_slT (ds' := [.str t.a, .str t.b]) rfl ?_
    walk_at "x"
    refine ⟨cP cs, rfl, ?_⟩
    walk_at "x"
    refine ⟨.inr a, .str g, rfl, by rw [getP_case, lk]; rfl, ?_⟩
    walk_at "x"
    refine x_eqD (pair_ok (name_cp okt.a) (name_cp okt.b)) (pair_ok hg ha) ?_
    rw [eqB_pair]
    walk_at "x"
    have sn : (ts.take (i + 1)).filter hit = (ts.take i).filter hit ++ [t].filter hit := by rw [take_snoc ht, List.filter_append]
    cases hc : ((t.a == g) && (t.b == a)) with
    | true =>
      rw [if_pos rfl]
      rw [show [t].filter hit = [t] by rw [List.filter_cons, if_pos (show hit t = true from hc)]; rfl] at sn
      walk_at "x"
      exact ⟨by rw [sn, List.map_append]; rfl, _, rfl⟩
    | false =>
      rw [if_neg Bool.false_ne_true]
      rw [show [t].filter hit = [] by rw [List.filter_cons, if_neg (by rw [show hit t = false from hc]; decide)]; rfl, List.append_nil] at sn
      exact ⟨by rw [sn], _, rfl⟩
  rintro acc e ⟨rfl, x6, rfl⟩
  rw [List.length_map, List.take_length]
  have fl : (ts.filter hit).length ≤ 20 := Nat.le_trans (List.length_filter_le ..) tl
  have q : Q (.f (.bl (!(ts.filter hit).any fun t => bearB t b))) := q
  generalize ts.filter hit = fs at fl q
  try dsimp only [List.map_cons, List.map_nil, wipeE, List.set_cons_zero, List.set_cons_succ]
  walk_at "x"
  let bb : Ti → Bool := fun t => bearB t b
  refine ⟨by rw [List.length_map]; omega, fun i acc e => acc = ((fs.take i).map bb).map D.bl ∧ ∃ x6, e = [some (.f (.tup [.str oo, .tup (ts.map Ti.d), .tup (xs.map Wi.d)])), some (.f (cD cs)), some (.f (.str a)), some (.f (.lst (b.map Wi.d))), none, some (.f (.lst (fs.map Ti.d))), x6], ⟨rfl, _, rfl⟩, ?_, ?_⟩
  · rintro i d acc e hd ⟨rfl, x6, rfl⟩
    rw [List.getElem?_map] at hd
    obtain ⟨t, ht, rfl⟩ := Option.map_eq_some_iff.mp hd
    refine ⟨_, rfl, ?_⟩
    dsimp only [List.map_cons, List.map_nil, wipeE, setE, Tgt.js, List.set_cons_zero, List.set_cons_succ]
    walk_at "x"
    refine ⟨t, b, rfl, bl, ?_⟩
    walk_at "x"
    exact ⟨by rw [take_snoc ht, List.map_append, List.map_append]; rfl, _, rfl⟩
  rintro acc e ⟨rfl, x6, rfl⟩
  rw [List.length_map, List.take_length]
  try dsimp only [List.map_cons, List.map_nil, wipeE, List.set_cons_zero, List.set_cons_succ]
  walk_at "x"
  refine x_any ?_
  rw [List.any_map, show (id ∘ bb) = bb from rfl]
  walk_at "x"
  exact q

end
end K80

namespace K80
open PySem PySem.Spec PyProof.Rows L2 Lk Evl Fx


local macro_rules | `(tactic| walk_at "sz") => `(tactic| first
  | exact Nat.le_of_ble_eq_true rfl
  | assumption
  | exact small_sz (Nat.le_of_ble_eq_true rfl)
  | (simp only [List.length_cons, List.length_nil, List.length_map, List.length_append]; first | omega | exact small_sz (by omega)))
local macro_rules | `(tactic| walk_at "x1") => `(tactic| first
  | with_reducible refine x_seq ?_
  | (with_reducible show wVar _ _ _); first | refine x_varF rfl ?_ | refine x_varO rfl ?_ | refine x_varV rfl ?_
  | with_reducible refine x_c ?_
  | with_reducible refine x_exf ?_
  | with_reducible refine x_excd ?_
  | (with_reducible show ∃ d1, Sl.cd (Sl.vw _) = some d1 ∧ _); refine x_excV rfl ?_
  | (with_reducible show ∃ d1, Sl.cd (Sl.own _) = some d1 ∧ _); refine x_excO rfl ?_
  | with_reducible refine x_binP ?_
  | with_reducible refine x_bin ?_
  | with_reducible refine x_adC ?_
  | with_reducible refine x_adN ?_
  | with_reducible refine x_lst ?_
  | with_reducible refine x_tup ?_
  | with_reducible refine x_lstO ?_
  | (with_reducible refine x_and (p := _ ≤ sizeLine) ?h ?_); (case h => walk_at "sz")
  | with_reducible refine x_callF ?_
  | with_reducible refine x_callL ?_
  | with_reducible refine x_listO ?_
  | with_reducible refine x_dstar ?_
  | with_reducible refine x_getN ?_
  | with_reducible refine x_ss ?_
  | with_reducible refine x_mulO ?_
  | with_reducible refine x_iZM ?_
  | (with_reducible show wCallU _ _ _ _ _); refine x_callU rfl ?_
  | with_reducible refine x_callV ?_
  | with_reducible refine x_join ?_
  | with_reducible refine x_waD ?_
  | with_reducible refine x_lc ?_
  | with_reducible refine x_lc2 ?_
  | with_reducible refine x_lenSets ?_
  | (with_reducible show wApp _ _ _ _); refine x_app rfl ?_
  | (with_reducible show wBinV _ _ _ _ _); refine x_binV rfl ?_
  | (with_reducible show wPopD _ _ _ _); refine x_popD rfl ?_
  | (with_reducible show wCatV _ _ _ _); refine x_catV rfl ?_
  | with_reducible refine x_slN2 ?_
  | with_reducible refine x_sortedSets ?_
  | with_reducible refine x_tplL ?_
  | with_reducible refine x_tplT ?_
  | with_reducible refine x_isB ?_
  | with_reducible refine x_r1 ?_
  | with_reducible refine x_r2 ?_
  | (with_reducible refine x_r1e ?h0 ?h1 ?_); (case h0 => omega); (case h1 => omega)
  | with_reducible refine x_iL ?_
  | with_reducible refine x_iT ?_
  | with_reducible refine x_iS ?_
  | with_reducible refine x_iE ?_
  | with_reducible refine x_iEe ?_
  | with_reducible refine x_yes ?_
  | with_reducible refine x_for ?_
  | (with_reducible show wLot _ [D.int _] _); (refine' x_lot (by assumption) ?h1 ?h2 ?h3 ?_); (case h1 => omega); (case h2 => first | decide | omega); (case h3 => first | decide | omega)
  | (with_reducible show ∃ o, _ = some (some (Sl.own o)) ∧ _); refine x_exO rfl ?_
  | with_reducible refine x_exo ?_
  | with_reducible refine x_ret ?_
  | with_reducible refine x_set ?_
  | with_reducible refine x_fin ?_
  | with_reducible refine x_fino ?_
  | (with_reducible refine x_and (p := _ < List.length _) ?h ?_); (case h => exact Nat.le_of_ble_eq_true rfl); (try dsimp only [List.set_cons_succ, List.set_cons_zero])
  | with_reducible refine x_next ?_
  | with_reducible refine x_retN ?_
  | with_reducible refine x_drop ?_
  | with_reducible refine x_asg ?_
  | (with_reducible refine x_gtp ?h ?_); (case h => rfl)
  | with_reducible refine x_gcons ?_
  | with_reducible refine x_gnil ?_
  | (with_reducible refine x_gn ?h ?_); (case h => exact Nat.le_of_ble_eq_true rfl); (try dsimp only [List.set_cons_succ, List.set_cons_zero])
  | with_reducible refine x_ifS ?_
  | with_reducible refine x_if ?_
  | with_reducible refine x_itT ?_
  | with_reducible refine x_itF ?_
  | with_reducible refine x_iteN ?_
  | with_reducible refine x_tru ?_
  | with_reducible refine x_tB ?_
  | with_reducible refine x_dtB ?_
  | with_reducible refine x_dtN ?_
  | with_reducible refine x_exb ?_
  | with_reducible refine x_exdb ?_
  | with_reducible refine x_tand ?_
  | with_reducible refine x_tor ?_
  | with_reducible refine x_tnot ?_
  | with_reducible refine x_and2 ?_
  | with_reducible refine x_or2 ?_
  | with_reducible refine x_not2 ?_
  | with_reducible refine x_chain ?_
  | with_reducible refine x_sub ?_
  | with_reducible refine x_addI ?_
  | (with_reducible refine x_addS ?h ?_); (case h => walk_at "sz")
  | (with_reducible refine x_addL ?h ?_); (case h => walk_at "sz")
  | (with_reducible refine x_addT ?h ?_); (case h => walk_at "sz")
  | with_reducible refine x_lt ?_
  | with_reducible refine x_le ?_
  | with_reducible refine x_gt ?_
  | with_reducible refine x_ge ?_
  | with_reducible refine x_ltS ?_
  | with_reducible refine x_eqI ?_
  | with_reducible refine x_neI ?_
  | with_reducible refine x_allSg ?_
  | with_reducible refine x_m0 ?_
  | with_reducible refine x_lstT ?_
  | with_reducible refine x_lstL ?_
  | with_reducible refine x_strB ?_
  | with_reducible refine x_strN ?_
  | with_reducible refine x_strS ?_
  | with_reducible refine x_isT ?_
  | with_reducible refine x_isI ?_
  | with_reducible refine x_neg ?_
  | with_reducible refine x_un ?_
  | (with_reducible refine x_pow ?h ?_); (case h => exact ⟨by decide, by decide +kernel⟩)
  | (with_reducible refine x_mod ?h ?_); (case h => first | decide | omega)
  | (with_reducible refine x_mul ?h ?_); (case h => exact mul_ok (by first | decide | omega) (by first | decide | omega))
  | (with_reducible refine x_div ?h ?_); (case h => exact div_ok (by first | decide | omega) (by first | decide | omega))
  | with_reducible refine x_ipA ?_
  | (with_reducible show wAugL _ _ _ _ _ _); refine x_augL rfl ?_
  | (with_reducible show wAug _ _ _ _ _); refine x_aug rfl ?_
  | (with_reducible show ∃ k' ds d, Sl.f (D.int _) = Sl.f (D.int k') ∧ _); refine x_augL1 rfl (by decide) rfl ?_
  | (with_reducible show ∃ k' j ds, Sl.f (D.int _) = Sl.f (D.int k') ∧ _ = some (some (Sl.own (O.lst ds))) ∧ ixN _ k' = some j ∧ _); refine x_setL1 rfl rfl ?_; (try dsimp only [List.set_cons_succ, List.set_cons_zero])
  | (with_reducible show ∃ ds j, _ = some (some (Sl.own (O.lst ds))) ∧ ixN _ _ = some j ∧ _); refine x_augL2 rfl rfl ?_; (try dsimp only [List.set_cons_succ, List.set_cons_zero])
  | (with_reducible show gSetL _ _ _ _ _); refine x_setL rfl ?_
  | (with_reducible show dIx (D.lst _) (D.int _) _); refine x_ixL rfl ?_
  | (with_reducible show dIx (D.tup _) (D.int _) _); refine x_ixT rfl ?_
  | with_reducible refine x_cb ?_
  | (with_reducible show wCB1 _ _ _ _); refine x_cb1 rfl rfl ?_
  | with_reducible refine x_fm ?_
  | with_reducible refine x_exl ?_
  | with_reducible refine x_ext ?_
  | with_reducible refine x_exs ?_
  | with_reducible refine x_exi ?_
  | with_reducible refine x_sl ?_
  | with_reducible refine x_slN ?_
  | with_reducible refine x_slS ?_
  | with_reducible refine x_frz ?_
  | with_reducible refine x_frL ?_
  | with_reducible refine x_revT ?_
  | with_reducible refine x_revL ?_
  | with_reducible refine x_splitO ?_
  | (with_reducible show wSlO _ _ _ _ _); refine x_slO rfl ?_
  | (with_reducible show ∃ ds2, _ = some (some (Sl.own (O.lst ds2))) ∧ _); refine x_exOl rfl ?_
  | with_reducible refine x_dictO ?_
  | with_reducible refine x_psC ?_
  | with_reducible refine x_psN ?_
  | with_reducible refine x_get ?_
  | (with_reducible show gSetSl _ _ _ _ _ _); refine x_setSl rfl ?_
  | with_reducible refine x_split ?_
  | with_reducible refine x_isN1 ?_
  | with_reducible refine x_isN0 rfl ?_
  | with_reducible refine x_iZ ?_
  | with_reducible refine x_zT ?_
  | with_reducible refine x_zL ?_
  | with_reducible refine x_stp ?_
  | with_reducible refine x_js ?_
  | with_reducible refine x_jsC ?_
  | with_reducible refine x_jsN ?_
  | with_reducible refine x_fmt ?_
  | with_reducible refine x_callFX ?_
  | (with_reducible refine x_glp ?h ?_); (case h => rfl)
  | with_reducible refine x_raiseR ?_
  | with_reducible refine x_row ?_
  | with_reducible refine x_lenL ?_
  | with_reducible refine x_lenT ?_
  | with_reducible refine x_lenD ?_
  | (with_reducible refine x_lenS ?h ?_); (case h => walk_at "sz")
  | with_reducible refine x_max ?_
  | with_reducible refine x_min ?_
  | with_reducible refine x_intI ?_
  | with_reducible refine x_intB ?_
  | (with_reducible refine x_isInt ?h ?_); (case h => first | assumption | exact part_ty (by assumption) | (intro _ hh; cases hh; done))
  | (with_reducible refine x_isBl ?h ?_); (case h => first | assumption | exact part_ty (by assumption) | (intro _ hh; cases hh; done))
  | (with_reducible refine x_isStr ?h ?_); (case h => first | assumption | exact part_ty (by assumption) | (intro _ hh; cases hh; done))
  | (with_reducible refine x_isTup ?h ?_); (case h => first | assumption | exact part_ty (by assumption) | (intro _ hh; cases hh; done))
  | (with_reducible refine x_isLst ?h ?_); (case h => first | assumption | exact part_ty (by assumption) | (intro _ hh; cases hh; done))
  | (with_reducible refine x_isDic ?h ?_); (case h => first | assumption | exact part_ty (by assumption) | (intro _ hh; cases hh; done))
  | (with_reducible refine x_itTe ?e ?_); (case e => rfl)
  | (with_reducible refine x_itFe ?e ?_); (case e => rfl)
  | with_reducible refine x_dnewO ?_
  | with_reducible refine x_dput ?_
  | with_reducible refine x_dix ?_
  | with_reducible refine x_sortedD ?_
  | with_reducible refine x_star ?_
  | with_reducible refine x_starT ?_
  | with_reducible refine x_frzD ?_
  | with_reducible refine x_sw ?_
  | with_reducible refine x_cnt ?_
  | with_reducible refine x_waC ?_
  | with_reducible refine x_waN ?_
  | with_reducible refine x_lenDD ?_
  | with_reducible refine x_allX ?_
  | (with_reducible show wFz _ _ _ _); refine x_fz rfl ?_
  | (with_reducible show wFzS _ _ _ _); refine x_fzS rfl ?_
  | (with_reducible show wFzO _ _ _ _); refine x_fzO rfl ?_
  | (with_reducible show wiK _ _ _); refine x_iK rfl ?_
  | (with_reducible show wiIt _ _ _); refine x_iIt rfl ?_
  | with_reducible refine x_iE1 ?_
  | with_reducible refine x_forR ?_
  | (with_reducible show wDIxV _ _ _ _); refine x_dixV rfl (cd_dicO _) ?_
  | (with_reducible show wDPop _ _ _ _); refine x_dpop rfl ?_
  | with_reducible refine x_pickO ?_
  | (with_reducible show wExt _ _ _ _); refine x_extO rfl ?_
  | with_reducible refine x_sortedR ?_
  | with_reducible refine x_sortedL ?_
  | with_reducible refine x_ixSt ?_
  | (with_reducible show wiVal _ _ _); refine x_iVal rfl ?_
  | with_reducible refine x_dictP ?_
  | with_reducible refine x_dictZip ?_
  | with_reducible refine x_revS ?_
  | with_reducible refine x_par ?_
  | (with_reducible show wIsiV _ _ _ _ _); refine x_isiV rfl ?_
  | ((with_reducible show _ ∧ _); refine And.intro (Nat.le_of_ble_eq_true rfl) ?_))
local macro_rules | `(tactic| walk_at "x") => `(tactic| repeat (walk_at "x1"))

section
variable {P : Program} {w : World} {K : PySem.W.Frag} {mg : Str → Option Value} {base : Heap} {tabs : List Addr}
/-! ### the program: the next one, the tied, full -/
theorem next_names {xs : List Wi} {cs : Case} {oo : Str} {ts : List Ti} (tr : TrOk oo ts xs) (ok : CsOk cs) : ∀ y ∈ xs.map (·.a) ++ cs.map (·.2), nameB (.str y) = true := fun y hy => by
  rcases List.mem_append.mp hy with hy | hy
  · obtain ⟨x, hx, rfl⟩ := List.mem_map.mp hy
    exact (tr.hxs x hx).a
  · obtain ⟨p, hp, rfl⟩ := List.mem_map.mp hy
    exact ok.b p hp
theorem next_name {xs : List Wi} {cs : Case} {oo y : Str} {ts : List Ti} (tr : TrOk oo ts xs) (ok : CsOk cs) (h : nextV oo xs cs = some y) : nameB (.str y) = true := next_names tr ok y (List.mem_of_find?_eq_some h)
theorem next_new {xs : List Wi} {cs : Case} {oo y : Str} (h : nextV oo xs cs = some y) : y ≠ oo ∧ y ∉ cs.map (·.1) := by
  have := List.find?_some h
  simpa using this
/-- what is looked through, one by one -/
theorem find_up {l : List Str} {p : Str → Bool} {i : Nat} {y : Str} (h : ∀ j z, j < i → l[j]? = some z → p z = false) (hy : l[i]? = some y) (hp : p y = true) : l.find? p = some y := by
  induction l generalizing i with
  | nil => cases hy
  | cons x l ih =>
    cases i with
    | zero =>
      cases hy
      rw [List.find?_cons_of_pos hp]
    | succ i =>
      have hx := h 0 x (Nat.succ_pos _) rfl
      rw [List.find?_cons_of_neg (by rw [hx]; decide)]
      exact ih (fun j z hj hz => h (j + 1) z (Nat.succ_lt_succ hj) hz) hy
theorem find_no {l : List Str} {p : Str → Bool} (h : ∀ j z, j < l.length → l[j]? = some z → p z = false) : l.find? p = none := by
  rw [List.find?_eq_none]
  intro z hz
  obtain ⟨j, hj, e⟩ := List.getElem_of_mem hz
  rw [h j z hj (by rw [List.getElem?_eq_getElem hj, e])]
  decide
theorem find_cut {l : List Str} {p q : Str → Bool} (h : ∀ z, q z = false → p z = false) : (l.filter q).find? p = l.find? p := by
  induction l with
  | nil => rfl
  | cons x l ih =>
    cases hq : q x with
    | true =>
      rw [List.filter_cons_of_pos hq]
      cases hp : p x with
      | true => rw [List.find?_cons_of_pos hp, List.find?_cons_of_pos hp]
      | false => rw [List.find?_cons_of_neg (by rw [hp]; decide), List.find?_cons_of_neg (by rw [hp]; decide), ih]
    | false => rw [List.filter_cons_of_neg (by rw [hq]; decide), List.find?_cons_of_neg (by rw [h x hq]; decide), ih]
theorem vals_case (cs : Case) : (cP cs).map (·.2) = (cs.map (·.2)).map D.str := by
  unfold cP
  rw [List.map_map, List.map_map]
  rfl
theorem getP_key {cs : Case} (y : Str) : (getP (cP cs) (.inr y)).isSome = (cs.map (·.1)).contains y := by
  rw [getP_case]
  induction cs with
  | nil => rfl
  | cons p cs ih =>
    obtain ⟨a, b⟩ := p
    show ((List.lookup y ((a, b) :: cs)).map D.str).isSome = (a :: cs.map (·.1)).contains y
    rw [List.lookup_cons, List.contains_cons]
    cases h : y == a with
    | true => rfl
    | false => rw [Bool.false_or]; exact ih
def wNextA : WFn := fun ds Q => ∃ (oo : Str) (ts : List Ti) (xs : List Wi) (cs : Case), ds = [trustD oo ts xs, cD cs] ∧ TrOk oo ts xs ∧ CsOk cs ∧ Q (.f (strO (nextV oo xs cs)))
theorem mono_next_actor : MonoF wNextA := fun ds Q Q' i ⟨oo, ts, xs, cs, h1, h2, h3, q⟩ => ⟨oo, ts, xs, cs, h1, h2, h3, i _ q⟩
theorem ok_nexta (T : Txt K mg) (A : At K mg "next_actor" s_next_actor ["trust", "settled"]) : Cal P w K mg base 1 "next_actor" (spW K tabs (liftF wNextA)) := by
  refine A.of fun f fd F => fx_fnF F sc_next_actor (fun ds Q ⟨_, _, _, _, h, _⟩ => by rw [h]; rfl) fun cdv A outer s H E TT P0 σ0 hcd hr => ⟨_, (gss_cons (gs_lcR (i := 2) (own := [("wish", 3)]) (t := .name 3) rfl sc_next_actor.nd rfl rfl (sw_true rfl rfl rfl (by decide +kernel)) (gi_tup (GE.of_pure (gp_ix ixx (gp_var (pv 0)) (gp_k T.g_WISHES rfl) (fun _ _ => rfl)))) (blkOk_by (own := [("wish", 3)]) (N := ["trust", "settled", "needed", "wish", "giver", "actor"]) (sc := defScope s_next_actor) (by decide +kernel)) (fun _ _ _ _ _ => (pg_name (i := 3) sc_next_actor.nd rfl (Or.inl rfl))) (fun _ _ _ _ _ => (GE.of_pure (gp_ix ixx (gp_var (pv 3)) gp_int (fun _ _ => rfl)))) (by decide) (mem1 rfl) (mem1 (Nat.le_of_ble_eq_true rfl)))
      (gss_cons (gs_extend (pv 2) (ge_fz (i := 1) (fun Tz Hz Pz σz hz => (ge_lcR1 (own := [("giver", 4)]) (t := .name 4) rfl sc_next_actor.nd (gi_values hz (pv 1)) (blkOk_by (own := [("giver", 4)]) (N := ["trust", "settled", "needed", "wish", "giver", "actor"]) (sc := defScope s_next_actor) (by decide +kernel)) (fun _ _ _ _ _ => (pg_name (i := 4) sc_next_actor.nd rfl (Or.inl rfl))) (fun _ _ _ _ _ => (gt_cmpP (opx_ne hr.units) (gp_var (pv 4)) (gp_ix ixx (gp_var (pv 0)) (gp_k T.g_OWNER rfl) (fun _ _ => rfl)) (nomark _))) (fun _ _ _ _ _ => (GE.of_pure (gp_var (pv 4)))) (by decide) (mem1 rfl) (mem1 (Nat.le_of_ble_eq_true rfl))))))
      (gss_cons (gs_for PassesOwn.never rfl (gi_list (ge_move (pv 2))) (gg_name (pg_name (i := 5) sc_next_actor.nd rfl (Or.inl rfl)) rfl)
      (gss_one (gs_if (gt_cmpP (opx_ninD (u1 hr)) (gp_var (pv 5)) (gp_var (pv 1)) (by rfl))
      (gss_one (gs_ret (GE.of_pure (gp_var (pv 5)))))
      gss_nil)))
      (gss_one (gs_ret (GE.of_pure gp_non)))))), fun ds Q ⟨oo, ts, xs, cs, e, tr, ok, q⟩ => ?_⟩
  subst e
  have hx6 := tr.x6
  have hcl := ok.len
  refine x_start (e := [some (.f (.tup [.str oo, .tup (ts.map Ti.d), .tup (xs.map Wi.d)])), some (.f (cD cs)), none, none, none, none]) rfl ?_
  walk_at "x"
  refine ⟨by rw [List.length_map]; omega, fun i acc e => acc = ((xs.take i).map (·.a)).map D.str ∧ ∃ x3, e = [some (.f (.tup [.str oo, .tup (ts.map Ti.d), .tup (xs.map Wi.d)])), some (.f (cD cs)), none, x3, none, none], ⟨rfl, _, rfl⟩, ?_, ?_⟩
  · rintro i d acc e hd ⟨rfl, x3, rfl⟩
    rw [List.getElem?_map] at hd
    obtain ⟨x, hx, rfl⟩ := Option.map_eq_some_iff.mp hd
    refine ⟨_, rfl, ?_⟩
    dsimp only [List.map_cons, List.map_nil, wipeE, setE, Tgt.js, List.set_cons_zero, List.set_cons_succ]
    rw [show x.d = .tup [.str x.a, x.p, .int x.s, .int x.u] from rfl]
    walk_at "x"
    exact ⟨by rw [take_snoc hx, List.map_append, List.map_append]; rfl, _, rfl⟩
  rintro acc e ⟨rfl, x3, rfl⟩
  rw [List.length_map, List.take_length]
  try dsimp only [List.map_cons, List.map_nil, wipeE, List.set_cons_zero, List.set_cons_succ]
  walk_at "x"
  rw [vals_case]
  try dsimp only [List.map_cons, List.map_nil, wipeE, List.set_cons_zero, List.set_cons_succ]
  let ne : Str → Bool := fun y => y != oo
  refine ⟨by rw [List.length_map, List.length_map]; omega, fun i acc e => acc = (((cs.map (·.2)).take i).filter ne).map D.str ∧ ∃ x4, e = [some (.f (.tup [.str oo, .tup (ts.map Ti.d), .tup (xs.map Wi.d)])), some (.f (cD cs)), some (.own (.lst ((xs.map (·.a)).map D.str))), none, x4, none], ⟨rfl, _, rfl⟩, ?_, ?_⟩
  · rintro i d acc e hd ⟨rfl, x4, rfl⟩
    obtain ⟨y, hy, rfl⟩ := at_map hd
    obtain ⟨p, hp, ep⟩ := List.mem_map.mp (List.mem_of_getElem? hy)
    have yn : nameB (.str y) = true := by rw [← ep]; exact ok.b p hp
    refine ⟨_, rfl, ?_⟩
    dsimp only [List.map_cons, List.map_nil, wipeE, setE, Tgt.js, List.set_cons_zero, List.set_cons_succ]
    walk_at "x"
    refine x_neD (okPy_str (name_cp yn)) (okPy_str (name_cp tr.hoo)) ?_
    rw [eq_strs]
    have sn : ((cs.map (·.2)).take (i + 1)).filter ne = ((cs.map (·.2)).take i).filter ne ++ [y].filter ne := by rw [take_snoc hy, List.filter_append]
    cases hc : y == oo with
    | true =>
      rw [show [y].filter ne = [] by rw [List.filter_cons, if_neg (by rw [show ne y = !(y == oo) from rfl, hc]; decide)]; rfl, List.append_nil] at sn
      walk_at "x"
      exact ⟨by rw [sn], _, rfl⟩
    | false =>
      rw [show [y].filter ne = [y] by rw [List.filter_cons, if_pos (by rw [show ne y = !(y == oo) from rfl, hc]; rfl)]; rfl] at sn
      walk_at "x"
      exact ⟨by rw [sn, List.map_append]; rfl, _, rfl⟩
  rintro acc e ⟨rfl, x4, rfl⟩
  rw [List.length_map, List.take_length]
  try dsimp only [List.map_cons, List.map_nil, wipeE, List.set_cons_zero, List.set_cons_succ]
  have fl : ((cs.map (·.2)).filter ne).length ≤ 6 := Nat.le_trans (List.length_filter_le ..) (by rw [List.length_map]; exact hcl)
  refine ⟨_, _, rfl, rfl, by rw [List.length_map, List.length_map, List.length_map, sizeLine_eq]; omega, ?_⟩
  rw [← List.map_append]
  have kok : ∀ y ∈ xs.map (·.a) ++ (cs.map (·.2)).filter ne, nameB (.str y) = true := fun y hy => next_names tr ok y (by
    rcases List.mem_append.mp hy with hy | hy
    · exact List.mem_append_left _ hy
    · exact List.mem_append_right _ (List.mem_filter.mp hy).1)
  have eqv : nextV oo xs cs = (xs.map (·.a) ++ (cs.map (·.2)).filter ne).find? (fun y => (y != oo) && !(cs.map (·.1)).contains y) := by
    unfold nextV
    rw [List.find?_append, List.find?_append, find_cut]
    intro z hz
    rw [show (z != oo) = ne z from rfl, hz, Bool.false_and]
  have noo : ∀ y ∈ xs.map (·.a) ++ (cs.map (·.2)).filter ne, (y != oo) = true := fun y hy => by
    rcases List.mem_append.mp hy with hy | hy
    · obtain ⟨x, hx, rfl⟩ := List.mem_map.mp hy
      simpa using tr.no x hx
    · exact (List.mem_filter.mp hy).2
  rw [eqv] at q
  generalize xs.map (·.a) ++ (cs.map (·.2)).filter ne = all at kok noo q
  walk_at "x"
  refine ⟨_, _, rfl, rfl, _, rfl, fun i e => (∀ j z, j < i → all[j]? = some z → (cs.map (·.1)).contains z = true) ∧ ∃ x2 x5, e = [some (.f (.tup [.str oo, .tup (ts.map Ti.d), .tup (xs.map Wi.d)])), some (.f (cD cs)), x2, none, none, x5], ⟨fun j y h => absurd h (Nat.not_lt_zero _), _, _, rfl⟩, ?_, ?_⟩
  · rintro i d e hd ⟨hj, x2, x5, rfl⟩
    obtain ⟨y, hy, rfl⟩ := at_map hd
    have ym := List.mem_of_getElem? hy
    walk_at "x"
    refine x_ninD (k := .inr y) (l := cP cs) ?_
    rw [getP_key]
    cases hc : (cs.map (·.1)).contains y with
    | true =>
      walk_at "x"
      exact ⟨fun j z hj2 hz => by
        rcases Nat.lt_or_ge j i with h | h
        · exact hj j z h hz
        · rw [show j = i by omega, hy] at hz
          cases hz
          exact hc, _, _, rfl⟩
    | false =>
      walk_at "x"
      rw [find_up (i := i) (fun j z hj2 hz => by rw [hj j z hj2 hz]; simp) hy (by rw [noo y ym, hc]; rfl)] at q
      exact q
  rintro e ⟨hj, x2, x5, rfl⟩
  rw [List.length_map] at hj
  walk_at "x"
  rw [find_no fun j z hj2 hz => by rw [hj j z hj2 hz]; simp] at q
  exact q
def wGivers : WFn := fun ds Q => ∃ (oo : Str) (ts : List Ti) (xs : List Wi) (a : Str), ds = [trustD oo ts xs, .str a] ∧ TrOk oo ts xs ∧ PyData.strOk a = true ∧ ∀ ys : List Str, IsTied ts a ys → Q (.f (.lst (ys.map D.str)))
theorem mono_givers_to : MonoF wGivers := fun ds Q Q' i ⟨oo, ts, xs, cs, h1, h2, h3, q⟩ => ⟨oo, ts, xs, cs, h1, h2, h3, fun y h => i _ (q y h)⟩
def tiedT (a : Str) (t : Ti) : Bool := t.b == a
theorem tied_of {ts : List Ti} {a : Str} {ys : List Str} (nd : ys.Nodup) (so : sortedS ys = true) (mm : ∀ y, y ∈ ys ↔ y ∈ (ts.filter (tiedT a)).map (·.a)) : IsTied ts a ys := by
  refine ⟨nd, so, fun y => (mm y).trans ⟨fun hy => ?_, fun ⟨t, h1, h2, h3⟩ => ?_⟩⟩
  · obtain ⟨t, h1, h2⟩ := List.mem_map.mp hy
    obtain ⟨h3, h4⟩ := List.mem_filter.mp h1
    exact ⟨t, h3, eq_of_beq h4, h2⟩
  · exact List.mem_map.mpr ⟨t, List.mem_filter.mpr ⟨h1, beq_iff_eq.mpr h2⟩, h3⟩
theorem ok_givers (T : Txt K mg) (A : At K mg "givers_to" s_givers_to ["trust", "actor"]) : Cal P w K mg base 1 "givers_to" (spW K tabs (liftF wGivers)) := by
  refine A.of fun f fd F => fx_fnF F sc_givers_to (fun ds Q ⟨_, _, _, _, h, _⟩ => by rw [h]; rfl) fun cdv A outer s H E TT P0 σ0 hcd hr => ⟨_, (gss_one (gs_ret (ge_sortedSC1 (own := [("tie", 2)]) (t := .name 2) rfl sc_givers_to.nd rfl T.z_sorted (gi_tup (GE.of_pure (gp_ix ixx (gp_var (pv 0)) (gp_k T.g_TIES rfl) (fun _ _ => rfl)))) (blkOk_by (own := [("tie", 2)]) (N := ["trust", "actor", "tie"]) (sc := defScope s_givers_to) (by decide +kernel)) (fun _ _ _ _ _ => (pg_name (i := 2) sc_givers_to.nd rfl (Or.inl rfl))) (fun _ _ _ _ _ => (gt_cmpP (opx_eq hr.units) (gp_ix ixx (gp_var (pv 2)) gp_int (fun _ _ => rfl)) (gp_var (pv 1)) (nomark _))) (fun _ _ _ _ _ => (GE.of_pure (gp_ix ixx (gp_var (pv 2)) gp_int (fun _ _ => rfl)))) (by decide) (mem1 rfl) (mem1 (Nat.le_of_ble_eq_true rfl))))), fun ds Q ⟨oo, ts, xs, a, e, tr, ha, q⟩ => ?_⟩
  subst e
  have htl := tr.tl
  refine x_start (e := [some (.f (.tup [.str oo, .tup (ts.map Ti.d), .tup (xs.map Wi.d)])), some (.f (.str a)), none]) rfl ?_
  walk_at "x"
  refine ⟨fun i acc e => acc = ((ts.take i).filter (tiedT a)).map (·.a) ∧ ∃ x2, e = [some (.f (.tup [.str oo, .tup (ts.map Ti.d), .tup (xs.map Wi.d)])), some (.f (.str a)), x2], ⟨rfl, _, rfl⟩, ?_, ?_⟩
  · rintro i d acc e hd ⟨rfl, x2, rfl⟩
    rw [List.getElem?_map] at hd
    obtain ⟨t, ht, rfl⟩ := Option.map_eq_some_iff.mp hd
    have tok := tr.hts t (List.mem_of_getElem? ht)
    have tkl : (((ts.take i).filter (tiedT a)).map (·.a)).length < 1000 := by
      rw [List.length_map]
      have h1 := List.length_filter_le (tiedT a) (ts.take i)
      rw [List.length_take] at h1
      omega
    refine ⟨_, rfl, ?_⟩
    dsimp only [List.map_cons, List.map_nil, wipeE, setE, Tgt.js, List.set_cons_zero, List.set_cons_succ]
    rw [show t.d = .tup [.str t.a, .str t.b, .int t.s, .int t.u] from rfl]
    walk_at "x"
    refine x_eqD (okPy_str (name_cp tok.b)) (okPy_str ha) ?_
    rw [eq_strs]
    cases hc : t.b == a with
    | true =>
      walk_at "x"
      refine ⟨tkl, ?_, _, rfl⟩
      rw [take_snoc ht, List.filter_append, List.filter_cons_of_pos (show tiedT a t = true from hc), List.filter_nil, List.map_append]
      rfl
    | false =>
      walk_at "x"
      exact ⟨by rw [take_snoc ht, List.filter_append, List.filter_cons_of_neg (by rw [show tiedT a t = false from hc]; decide), List.filter_nil, List.append_nil], _, rfl⟩
  rintro acc e ⟨rfl, x2, rfl⟩
  rw [show (ts.map Ti.d).length = ts.length from List.length_map .., List.take_length]
  try dsimp only [List.map_cons, List.map_nil, wipeE, List.set_cons_zero, List.set_cons_succ]
  refine ⟨by rw [List.length_map]; exact Nat.lt_of_le_of_lt (List.length_filter_le ..) (by omega), fun ys nd so mm => ?_⟩
  walk_at "x"
  exact q ys (tied_of nd so mm)
theorem x_lenD {cs : Case} {Q : D → Prop} (h : Q (.int (cs.length : Nat))) : cLen [cD cs] Q := by
  show Q (.int (((cP cs).map (·.2)).length : Nat))
  rw [vals_case, List.length_map, List.length_map]
  exact h
def wFull : WFn := fun ds Q => ∃ (oo : Str) (ts : List Ti) (xs : List Wi) (most : Option Int) (cs : Case), ds = [trustD oo ts xs, mostD most, cD cs] ∧ TrOk oo ts xs ∧ CsOk cs ∧ Q (.f (.bl (fullV oo xs most cs)))
theorem mono_is_full : MonoF wFull := fun ds Q Q' i ⟨oo, ts, xs, most, cs, h1, h2, h3, q⟩ => ⟨oo, ts, xs, most, cs, h1, h2, h3, i _ q⟩
theorem ok_full (T : Txt K mg) (c_next_actor : Cal P w K mg base 1 "next_actor" (spW K tabs (liftF wNextA))) (A : At K mg "is_full" s_is_full ["trust", "most", "settled"]) : Cal P w K mg base 2 "is_full" (spW K tabs (liftF wFull)) := by
  refine A.of fun f fd F => fx_fnF F sc_is_full (fun ds Q ⟨_, _, _, _, _, h, _⟩ => by rw [h]; rfl) fun cdv A outer s H E TT P0 σ0 hcd hr => ⟨_, (gss_one (gs_ret (ge_and (GE.of_pure (gp_cmp opx_notN (gp_var (pv 1)) gp_non (nomark _))) (ge_and (ge_cmp opx_ge (ge_cbB1 cax_len (by rfl) T.z_len (by decide +kernel) (pv 2)) (GE.of_pure (gp_var (pv 1))) (nomark _)) (ge_one (ge_cmp opx_notN (ge_callF c_next_actor hr (by first | decide | omega) rfl rfl rfl mono_next_actor (gd_cons (GE.of_pure (gp_var (pv 0))) (gd_cons (GE.of_pure (gp_var (pv 2))) gd_nil))) (GE.of_pure gp_non) (nomark _))))))), fun ds Q ⟨oo, ts, xs, most, cs, e, tr, ok, q⟩ => ?_⟩
  subst e
  refine x_start (e := [some (.f (.tup [.str oo, .tup (ts.map Ti.d), .tup (xs.map Wi.d)])), some (.f (mostD most)), some (.f (cD cs))]) rfl ?_
  cases most with
  | none =>
    dsimp only [mostD]
    walk_at "x"
    exact q
  | some m =>
    dsimp only [mostD]
    walk_at "x"
    refine x_lenD ?_
    walk_at "x"
    refine x_ite (fun h3 => ?_) (fun h3 => ?_)
    · walk_at "x"
      refine ⟨oo, ts, xs, cs, rfl, tr, ok, ?_⟩
      cases hn : nextV oo xs cs with
      | none =>
        dsimp only [strO]
        walk_at "x"
        rw [show fullV oo xs (some m) cs = (decide ((cs.length : Int) ≥ m) && (nextV oo xs cs).isSome) from rfl, hn] at q
        simpa using q
      | some y =>
        dsimp only [strO]
        walk_at "x"
        rw [show fullV oo xs (some m) cs = (decide ((cs.length : Int) ≥ m) && (nextV oo xs cs).isSome) from rfl, hn, h3] at q
        exact q
    · walk_at "x"
      rw [show fullV oo xs (some m) cs = (decide ((cs.length : Int) ≥ m) && (nextV oo xs cs).isSome) from rfl, h3] at q
      exact q

end
end K80

namespace K80
open PySem PySem.Spec PyProof.Rows L2 Lk Evl Fx


local macro_rules | `(tactic| walk_at "sz") => `(tactic| first
  | exact Nat.le_of_ble_eq_true rfl
  | assumption
  | exact small_sz (Nat.le_of_ble_eq_true rfl)
  | (simp only [List.length_cons, List.length_nil, List.length_map, List.length_append]; first | omega | exact small_sz (by omega)))
local macro_rules | `(tactic| walk_at "x1") => `(tactic| first
  | with_reducible refine x_seq ?_
  | (with_reducible show wVar _ _ _); first | refine x_varF rfl ?_ | refine x_varO rfl ?_ | refine x_varV rfl ?_
  | with_reducible refine x_c ?_
  | with_reducible refine x_exf ?_
  | with_reducible refine x_excd ?_
  | (with_reducible show ∃ d1, Sl.cd (Sl.vw _) = some d1 ∧ _); refine x_excV rfl ?_
  | (with_reducible show ∃ d1, Sl.cd (Sl.own _) = some d1 ∧ _); refine x_excO rfl ?_
  | with_reducible refine x_binP ?_
  | with_reducible refine x_bin ?_
  | with_reducible refine x_adC ?_
  | with_reducible refine x_adN ?_
  | with_reducible refine x_lst ?_
  | with_reducible refine x_tup ?_
  | with_reducible refine x_lstO ?_
  | (with_reducible refine x_and (p := _ ≤ sizeLine) ?h ?_); (case h => walk_at "sz")
  | with_reducible refine x_callF ?_
  | with_reducible refine x_callL ?_
  | with_reducible refine x_listO ?_
  | with_reducible refine x_dstar ?_
  | with_reducible refine x_getN ?_
  | with_reducible refine x_ss ?_
  | with_reducible refine x_mulO ?_
  | with_reducible refine x_iZM ?_
  | (with_reducible show wCallU _ _ _ _ _); refine x_callU rfl ?_
  | with_reducible refine x_callV ?_
  | with_reducible refine x_join ?_
  | with_reducible refine x_waD ?_
  | with_reducible refine x_lc ?_
  | with_reducible refine x_lc2 ?_
  | with_reducible refine x_lenSets ?_
  | (with_reducible show wApp _ _ _ _); refine x_app rfl ?_
  | (with_reducible show wBinV _ _ _ _ _); refine x_binV rfl ?_
  | (with_reducible show wPopD _ _ _ _); refine x_popD rfl ?_
  | (with_reducible show wCatV _ _ _ _); refine x_catV rfl ?_
  | with_reducible refine x_slN2 ?_
  | with_reducible refine x_sortedSets ?_
  | with_reducible refine x_tplL ?_
  | with_reducible refine x_tplT ?_
  | with_reducible refine x_isB ?_
  | with_reducible refine x_r1 ?_
  | with_reducible refine x_r2 ?_
  | (with_reducible refine x_r1e ?h0 ?h1 ?_); (case h0 => omega); (case h1 => omega)
  | with_reducible refine x_iL ?_
  | with_reducible refine x_iT ?_
  | with_reducible refine x_iS ?_
  | with_reducible refine x_iE ?_
  | with_reducible refine x_iEe ?_
  | with_reducible refine x_yes ?_
  | with_reducible refine x_for ?_
  | (with_reducible show wLot _ [D.int _] _); (refine' x_lot (by assumption) ?h1 ?h2 ?h3 ?_); (case h1 => omega); (case h2 => first | decide | omega); (case h3 => first | decide | omega)
  | (with_reducible show ∃ o, _ = some (some (Sl.own o)) ∧ _); refine x_exO rfl ?_
  | with_reducible refine x_exo ?_
  | with_reducible refine x_ret ?_
  | with_reducible refine x_set ?_
  | with_reducible refine x_fin ?_
  | with_reducible refine x_fino ?_
  | (with_reducible refine x_and (p := _ < List.length _) ?h ?_); (case h => exact Nat.le_of_ble_eq_true rfl); (try dsimp only [List.set_cons_succ, List.set_cons_zero])
  | with_reducible refine x_next ?_
  | with_reducible refine x_retN ?_
  | with_reducible refine x_drop ?_
  | with_reducible refine x_asg ?_
  | (with_reducible refine x_gtp ?h ?_); (case h => rfl)
  | with_reducible refine x_gcons ?_
  | with_reducible refine x_gnil ?_
  | (with_reducible refine x_gn ?h ?_); (case h => exact Nat.le_of_ble_eq_true rfl); (try dsimp only [List.set_cons_succ, List.set_cons_zero])
  | with_reducible refine x_ifS ?_
  | with_reducible refine x_if ?_
  | with_reducible refine x_itT ?_
  | with_reducible refine x_itF ?_
  | with_reducible refine x_iteN ?_
  | with_reducible refine x_tru ?_
  | with_reducible refine x_tB ?_
  | with_reducible refine x_dtB ?_
  | with_reducible refine x_dtN ?_
  | with_reducible refine x_exb ?_
  | with_reducible refine x_exdb ?_
  | with_reducible refine x_tand ?_
  | with_reducible refine x_tor ?_
  | with_reducible refine x_tnot ?_
  | with_reducible refine x_and2 ?_
  | with_reducible refine x_or2 ?_
  | with_reducible refine x_not2 ?_
  | with_reducible refine x_chain ?_
  | with_reducible refine x_sub ?_
  | with_reducible refine x_addI ?_
  | (with_reducible refine x_addS ?h ?_); (case h => walk_at "sz")
  | (with_reducible refine x_addL ?h ?_); (case h => walk_at "sz")
  | (with_reducible refine x_addT ?h ?_); (case h => walk_at "sz")
  | with_reducible refine x_lt ?_
  | with_reducible refine x_le ?_
  | with_reducible refine x_gt ?_
  | with_reducible refine x_ge ?_
  | with_reducible refine x_ltS ?_
  | with_reducible refine x_eqI ?_
  | with_reducible refine x_neI ?_
  | with_reducible refine x_allSg ?_
  | with_reducible refine x_m0 ?_
  | with_reducible refine x_lstT ?_
  | with_reducible refine x_lstL ?_
  | with_reducible refine x_strB ?_
  | with_reducible refine x_strN ?_
  | with_reducible refine x_strS ?_
  | with_reducible refine x_isT ?_
  | with_reducible refine x_isI ?_
  | with_reducible refine x_neg ?_
  | with_reducible refine x_un ?_
  | (with_reducible refine x_pow ?h ?_); (case h => exact ⟨by decide, by decide +kernel⟩)
  | (with_reducible refine x_mod ?h ?_); (case h => first | decide | omega)
  | (with_reducible refine x_mul ?h ?_); (case h => exact mul_ok (by first | decide | omega) (by first | decide | omega))
  | (with_reducible refine x_div ?h ?_); (case h => exact div_ok (by first | decide | omega) (by first | decide | omega))
  | with_reducible refine x_ipA ?_
  | (with_reducible show wAugL _ _ _ _ _ _); refine x_augL rfl ?_
  | (with_reducible show wAug _ _ _ _ _); refine x_aug rfl ?_
  | (with_reducible show ∃ k' ds d, Sl.f (D.int _) = Sl.f (D.int k') ∧ _); refine x_augL1 rfl (by decide) rfl ?_
  | (with_reducible show ∃ k' j ds, Sl.f (D.int _) = Sl.f (D.int k') ∧ _ = some (some (Sl.own (O.lst ds))) ∧ ixN _ k' = some j ∧ _); refine x_setL1 rfl rfl ?_; (try dsimp only [List.set_cons_succ, List.set_cons_zero])
  | (with_reducible show ∃ ds j, _ = some (some (Sl.own (O.lst ds))) ∧ ixN _ _ = some j ∧ _); refine x_augL2 rfl rfl ?_; (try dsimp only [List.set_cons_succ, List.set_cons_zero])
  | (with_reducible show gSetL _ _ _ _ _); refine x_setL rfl ?_
  | (with_reducible show dIx (D.lst _) (D.int _) _); refine x_ixL rfl ?_
  | (with_reducible show dIx (D.tup _) (D.int _) _); refine x_ixT rfl ?_
  | with_reducible refine x_cb ?_
  | (with_reducible show wCB1 _ _ _ _); refine x_cb1 rfl rfl ?_
  | with_reducible refine x_fm ?_
  | with_reducible refine x_exl ?_
  | with_reducible refine x_ext ?_
  | with_reducible refine x_exs ?_
  | with_reducible refine x_exi ?_
  | with_reducible refine x_sl ?_
  | with_reducible refine x_slN ?_
  | with_reducible refine x_slS ?_
  | with_reducible refine x_frz ?_
  | with_reducible refine x_frL ?_
  | with_reducible refine x_revT ?_
  | with_reducible refine x_revL ?_
  | with_reducible refine x_splitO ?_
  | (with_reducible show wSlO _ _ _ _ _); refine x_slO rfl ?_
  | (with_reducible show ∃ ds2, _ = some (some (Sl.own (O.lst ds2))) ∧ _); refine x_exOl rfl ?_
  | with_reducible refine x_dictO ?_
  | with_reducible refine x_psC ?_
  | with_reducible refine x_psN ?_
  | with_reducible refine x_get ?_
  | (with_reducible show gSetSl _ _ _ _ _ _); refine x_setSl rfl ?_
  | with_reducible refine x_split ?_
  | with_reducible refine x_isN1 ?_
  | with_reducible refine x_isN0 rfl ?_
  | with_reducible refine x_iZ ?_
  | with_reducible refine x_zT ?_
  | with_reducible refine x_zL ?_
  | with_reducible refine x_stp ?_
  | with_reducible refine x_js ?_
  | with_reducible refine x_jsC ?_
  | with_reducible refine x_jsN ?_
  | with_reducible refine x_fmt ?_
  | with_reducible refine x_callFX ?_
  | (with_reducible refine x_glp ?h ?_); (case h => rfl)
  | with_reducible refine x_raiseR ?_
  | with_reducible refine x_row ?_
  | with_reducible refine x_lenL ?_
  | with_reducible refine x_lenT ?_
  | with_reducible refine x_lenD ?_
  | (with_reducible refine x_lenS ?h ?_); (case h => walk_at "sz")
  | with_reducible refine x_max ?_
  | with_reducible refine x_min ?_
  | with_reducible refine x_intI ?_
  | with_reducible refine x_intB ?_
  | (with_reducible refine x_isInt ?h ?_); (case h => first | assumption | exact part_ty (by assumption) | (intro _ hh; cases hh; done))
  | (with_reducible refine x_isBl ?h ?_); (case h => first | assumption | exact part_ty (by assumption) | (intro _ hh; cases hh; done))
  | (with_reducible refine x_isStr ?h ?_); (case h => first | assumption | exact part_ty (by assumption) | (intro _ hh; cases hh; done))
  | (with_reducible refine x_isTup ?h ?_); (case h => first | assumption | exact part_ty (by assumption) | (intro _ hh; cases hh; done))
  | (with_reducible refine x_isLst ?h ?_); (case h => first | assumption | exact part_ty (by assumption) | (intro _ hh; cases hh; done))
  | (with_reducible refine x_isDic ?h ?_); (case h => first | assumption | exact part_ty (by assumption) | (intro _ hh; cases hh; done))
  | (with_reducible refine x_itTe ?e ?_); (case e => rfl)
  | (with_reducible refine x_itFe ?e ?_); (case e => rfl)
  | with_reducible refine x_dnewO ?_
  | with_reducible refine x_dput ?_
  | with_reducible refine x_dix ?_
  | with_reducible refine x_sortedD ?_
  | with_reducible refine x_star ?_
  | with_reducible refine x_starT ?_
  | with_reducible refine x_frzD ?_
  | with_reducible refine x_sw ?_
  | with_reducible refine x_cnt ?_
  | with_reducible refine x_waC ?_
  | with_reducible refine x_waN ?_
  | with_reducible refine x_lenDD ?_
  | with_reducible refine x_allX ?_
  | (with_reducible show wFz _ _ _ _); refine x_fz rfl ?_
  | (with_reducible show wFzS _ _ _ _); refine x_fzS rfl ?_
  | (with_reducible show wFzO _ _ _ _); refine x_fzO rfl ?_
  | (with_reducible show wiK _ _ _); refine x_iK rfl ?_
  | (with_reducible show wiIt _ _ _); refine x_iIt rfl ?_
  | with_reducible refine x_iE1 ?_
  | with_reducible refine x_forR ?_
  | (with_reducible show wDIxV _ _ _ _); refine x_dixV rfl (cd_dicO _) ?_
  | (with_reducible show wDPop _ _ _ _); refine x_dpop rfl ?_
  | with_reducible refine x_pickO ?_
  | (with_reducible show wExt _ _ _ _); refine x_extO rfl ?_
  | with_reducible refine x_sortedR ?_
  | with_reducible refine x_sortedL ?_
  | with_reducible refine x_ixSt ?_
  | (with_reducible show wiVal _ _ _); refine x_iVal rfl ?_
  | with_reducible refine x_dictP ?_
  | with_reducible refine x_dictZip ?_
  | with_reducible refine x_revS ?_
  | with_reducible refine x_par ?_
  | (with_reducible show wIsiV _ _ _ _ _); refine x_isiV rfl ?_
  | ((with_reducible show _ ∧ _); refine And.intro (Nat.le_of_ble_eq_true rfl) ?_))
local macro_rules | `(tactic| walk_at "x") => `(tactic| repeat (walk_at "x1"))

section
variable {P : Program} {w : World} {K : PySem.W.Frag} {mg : Str → Option Value} {base : Heap} {tabs : List Addr}
/-! ### the program: what bars -/
def wBars : WFn := fun ds Q => ∃ (oo : Str) (ts : List Ti) (xs : List Wi) (most : Option Int) (cs : Case) (d : D), ds = [trustD oo ts xs, mostD most, cD cs, d] ∧ TrOk oo ts xs ∧ CsOk cs ∧ Leaf79 d ∧ Q (.f (.bl (barV oo ts xs most cs d)))
theorem mono0__bars : MonoF wBars := fun ds Q Q' i ⟨oo, ts, xs, most, cs, d, h1, h2, h3, h4, q⟩ => ⟨oo, ts, xs, most, cs, d, h1, h2, h3, h4, i _ q⟩
theorem look_isSome {cs : Case} {a : Str} : (getP (cP cs) (.inr a)).isSome = (look cs a).isSome := by
  rw [getP_case]
  cases look cs a <;> rfl
/-- what is no bar, where no more is too many -/
def BadBar (cs : Case) (l : List D) : Prop := l = [] ∨ (∃ w : Str, l = [.str w] ∧ PyData.strOk w = true) ∨ (∃ w y : Str, l = [.str w, .str y] ∧ PyData.strOk w = true ∧ PyData.strOk y = true ∧ (look cs y = none ∨ (w ≠ "ring" ∧ w ≠ "time"))) ∨ ∃ (w y : Str) (a b : D), l = [.str w, .str y, a, b]
def wBarsX : WFn := fun ds Q => ∃ (oo : Str) (ts : List Ti) (xs : List Wi) (cs : Case) (l : List D), ds = [trustD oo ts xs, .non, cD cs, .tup l] ∧ TrOk oo ts xs ∧ CsOk cs ∧ BadBar cs l ∧ Q (.f (.bl false))
def wBarsA : WFn := fun ds Q => wBars ds Q ∨ wBarsX ds Q
theorem mono__bars : MonoF wBarsA := fun ds Q Q' i h => h.elim (fun h => .inl (mono0__bars ds Q Q' i h)) fun ⟨oo, ts, xs, cs, l, h1, h2, h3, h4, q⟩ => .inr ⟨oo, ts, xs, cs, l, h1, h2, h3, h4, i _ q⟩
theorem len__bars {ds : List D} {Q : Sl → Prop} (h : wBarsA ds Q) : ds.length = 4 := by
  rcases h with ⟨_, _, _, _, _, _, h, _⟩ | ⟨_, _, _, _, _, h, _⟩ <;> rw [h] <;> rfl
theorem ok_bars (T : Txt K mg) (c_is_full : Cal P w K mg base 2 "is_full" (spW K tabs (liftF wFull))) (c_is_in_ring : Cal P w K mg base 2 "is_in_ring" (spW K tabs (liftF wRing))) (c_lacks_time : Cal P w K mg base 2 "lacks_time" (spW K tabs (liftF wLacks)))
    (A : At K mg "_bars" s__bars ["trust", "most", "settled", "bar"]) : Cal P w K mg base 3 "_bars" (spW K tabs (liftF wBarsA)) := by
  refine A.of fun f fd F => fx_fnF F sc__bars (fun ds Q h => len__bars h) fun cdv A outer s H E TT P0 σ0 hcd hr => ⟨_, (gss_cons (gs_if (gt_cmp (opx_eq hr.units) (ge_cbB1 cax_len (by rfl) T.z_len (by decide +kernel) (pv 3)) (GE.of_pure gp_int) (nomark _))
      (gss_one (gs_ret (ge_and (GE.of_pure (gp_cmp (opx_eq hr.units) (gp_ix ixx (gp_var (pv 3)) gp_int (fun _ _ => rfl)) gp_str (nomark _))) (ge_one (ge_callF c_is_full hr (by first | decide | omega) rfl rfl rfl mono_is_full (gd_cons (GE.of_pure (gp_var (pv 0))) (gd_cons (GE.of_pure (gp_var (pv 1))) (gd_cons (GE.of_pure (gp_var (pv 2))) gd_nil))))))))
      gss_nil)
      (gss_cons (gs_if (GW.gt (gw_or (gt_cmp (opx_ne hr.units) (ge_cbB1 cax_len (by rfl) T.z_len (by decide +kernel) (pv 3)) (GE.of_pure gp_int) (nomark _)) (gw_or1 (gt_cmpP (opx_ninD (u1 hr)) (gp_ix ixx (gp_var (pv 3)) gp_int (fun _ _ => rfl)) (gp_var (pv 2)) (by rfl)))))
      (gss_one (gs_ret (GE.of_pure gp_bl)))
      gss_nil)
      (gss_cons (gs_if (gt_cmpP (opx_eq hr.units) (gp_ix ixx (gp_var (pv 3)) gp_int (fun _ _ => rfl)) gp_str (nomark _))
      (gss_one (gs_ret (ge_callF c_is_in_ring hr (by first | decide | omega) rfl rfl rfl mono_is_in_ring (gd_cons (GE.of_pure (gp_var (pv 2))) (gd_cons (GE.of_pure (gp_ix ixx (gp_var (pv 3)) gp_int (fun _ _ => rfl))) gd_nil)))))
      gss_nil)
      (gss_one (gs_ret (ge_and (GE.of_pure (gp_cmp (opx_eq hr.units) (gp_ix ixx (gp_var (pv 3)) gp_int (fun _ _ => rfl)) gp_str (nomark _))) (ge_one (ge_callF c_lacks_time hr (by first | decide | omega) rfl rfl rfl mono_lacks_time (gd_cons (GE.of_pure (gp_var (pv 0))) (gd_cons (GE.of_pure (gp_var (pv 2))) (gd_cons (GE.of_pure (gp_ix ixx (gp_var (pv 3)) gp_int (fun _ _ => rfl))) gd_nil))))))))))), fun ds Q h0 => ?_⟩
  rcases h0 with ⟨oo, ts, xs, most, cs, d, e, tr, ok, lf, q⟩ | ⟨oo, ts, xs, cs, l, e, tr, ok, bad, q⟩
  · subst e
    rcases lf with rfl | ⟨a, ha, h⟩
    · refine x_start (e := [some (.f (.tup [.str oo, .tup (ts.map Ti.d), .tup (xs.map Wi.d)])), some (.f (mostD most)), some (.f (cD cs)), some (.f (.tup [.str "many"]))]) rfl ?_
      walk_at "x"
      refine x_eqD (by decide +kernel) (by decide +kernel) ?_
      rw [show eqB (.str "many") (.str "many") = true by decide +kernel]
      walk_at "x"
      refine ⟨oo, ts, xs, most, cs, rfl, tr, ok, ?_⟩
      walk_at "x"
      exact q
    · have key : ∀ w : Str, (w = "ring" ∨ w = "time") → barV oo ts xs most cs (.tup [.str w, .str a]) = (match look cs a with | none => false | some g => if w == "ring" then ringV cs a else timeV ts xs cs a g) := fun w _ => rfl
      rcases h with rfl | rfl
      · rw [key "ring" (.inl rfl)] at q
        refine x_start (e := [some (.f (.tup [.str oo, .tup (ts.map Ti.d), .tup (xs.map Wi.d)])), some (.f (mostD most)), some (.f (cD cs)), some (.f (.tup [.str "ring", .str a]))]) rfl ?_
        walk_at "x"
        refine x_ninD (k := .inr a) (l := cP cs) ?_
        rw [look_isSome]
        cases hl : look cs a with
        | none =>
          rw [hl] at q
          walk_at "x"
          exact q
        | some g =>
          rw [hl] at q
          walk_at "x"
          refine x_eqD (by decide +kernel) (by decide +kernel) ?_
          rw [show eqB (.str "ring") (.str "ring") = true by decide +kernel]
          walk_at "x"
          refine ⟨cs, a, rfl, ok, ha, ?_⟩
          walk_at "x"
          exact q
      · rw [key "time" (.inr rfl)] at q
        refine x_start (e := [some (.f (.tup [.str oo, .tup (ts.map Ti.d), .tup (xs.map Wi.d)])), some (.f (mostD most)), some (.f (cD cs)), some (.f (.tup [.str "time", .str a]))]) rfl ?_
        walk_at "x"
        refine x_ninD (k := .inr a) (l := cP cs) ?_
        rw [look_isSome]
        cases hl : look cs a with
        | none =>
          rw [hl] at q
          walk_at "x"
          exact q
        | some g =>
          rw [hl] at q
          walk_at "x"
          refine x_eqD (by decide +kernel) (by decide +kernel) ?_
          rw [show eqB (.str "time") (.str "ring") = false by decide +kernel]
          walk_at "x"
          refine x_eqD (by decide +kernel) (by decide +kernel) ?_
          rw [show eqB (.str "time") (.str "time") = true by decide +kernel]
          walk_at "x"
          refine ⟨oo, ts, xs, cs, a, g, rfl, tr, ok, hl, ?_⟩
          walk_at "x"
          exact q
  · subst e
    rcases bad with rfl | ⟨w, rfl, hw⟩ | ⟨w, y, rfl, hw, hy, nb⟩ | ⟨w, y, a, b, rfl⟩
    · refine x_start (e := [some (.f (.tup [.str oo, .tup (ts.map Ti.d), .tup (xs.map Wi.d)])), some (.f .non), some (.f (cD cs)), some (.f (.tup []))]) rfl ?_
      walk_at "x"
      exact q
    · refine x_start (e := [some (.f (.tup [.str oo, .tup (ts.map Ti.d), .tup (xs.map Wi.d)])), some (.f .non), some (.f (cD cs)), some (.f (.tup [.str w]))]) rfl ?_
      walk_at "x"
      refine x_eqD (okPy_str hw) (by decide +kernel) ?_
      cases eqB (.str w) (.str "many") with
      | true =>
        walk_at "x"
        refine ⟨oo, ts, xs, none, cs, rfl, tr, ok, ?_⟩
        walk_at "x"
        exact q
      | false =>
        walk_at "x"
        exact q
    · refine x_start (e := [some (.f (.tup [.str oo, .tup (ts.map Ti.d), .tup (xs.map Wi.d)])), some (.f .non), some (.f (cD cs)), some (.f (.tup [.str w, .str y]))]) rfl ?_
      walk_at "x"
      refine x_ninD (k := .inr y) (l := cP cs) ?_
      rw [look_isSome]
      cases hl : look cs y with
      | none =>
        walk_at "x"
        exact q
      | some g =>
        obtain ⟨n1, n2⟩ := nb.resolve_left (by rw [hl]; exact nofun)
        walk_at "x"
        refine x_eqD (okPy_str hw) (by decide +kernel) ?_
        rw [eq_strs, beq_false_of_ne n1]
        walk_at "x"
        refine x_eqD (okPy_str hw) (by decide +kernel) ?_
        rw [eq_strs, beq_false_of_ne n2]
        walk_at "x"
        exact q
    · refine x_start (e := [some (.f (.tup [.str oo, .tup (ts.map Ti.d), .tup (xs.map Wi.d)])), some (.f .non), some (.f (cD cs)), some (.f (.tup [.str w, .str y, a, b]))]) rfl ?_
      walk_at "x"
      exact q

end
end K80

namespace K80
open PySem PySem.Spec PyProof.Rows L2 Lk Evl Fx


local macro_rules | `(tactic| walk_at "sz") => `(tactic| first
  | exact Nat.le_of_ble_eq_true rfl
  | assumption
  | exact small_sz (Nat.le_of_ble_eq_true rfl)
  | (simp only [List.length_cons, List.length_nil, List.length_map, List.length_append]; first | omega | exact small_sz (by omega)))
local macro_rules | `(tactic| walk_at "x1") => `(tactic| first
  | with_reducible refine x_seq ?_
  | (with_reducible show wVar _ _ _); first | refine x_varF rfl ?_ | refine x_varO rfl ?_ | refine x_varV rfl ?_
  | with_reducible refine x_c ?_
  | with_reducible refine x_exf ?_
  | with_reducible refine x_excd ?_
  | (with_reducible show ∃ d1, Sl.cd (Sl.vw _) = some d1 ∧ _); refine x_excV rfl ?_
  | (with_reducible show ∃ d1, Sl.cd (Sl.own _) = some d1 ∧ _); refine x_excO rfl ?_
  | with_reducible refine x_binP ?_
  | with_reducible refine x_bin ?_
  | with_reducible refine x_adC ?_
  | with_reducible refine x_adN ?_
  | with_reducible refine x_lst ?_
  | with_reducible refine x_tup ?_
  | with_reducible refine x_lstO ?_
  | (with_reducible refine x_and (p := _ ≤ sizeLine) ?h ?_); (case h => walk_at "sz")
  | with_reducible refine x_callF ?_
  | with_reducible refine x_callL ?_
  | with_reducible refine x_listO ?_
  | with_reducible refine x_dstar ?_
  | with_reducible refine x_getN ?_
  | with_reducible refine x_ss ?_
  | with_reducible refine x_mulO ?_
  | with_reducible refine x_iZM ?_
  | (with_reducible show wCallU _ _ _ _ _); refine x_callU rfl ?_
  | with_reducible refine x_callV ?_
  | with_reducible refine x_join ?_
  | with_reducible refine x_waD ?_
  | with_reducible refine x_lc ?_
  | with_reducible refine x_lc2 ?_
  | with_reducible refine x_lenSets ?_
  | (with_reducible show wApp _ _ _ _); refine x_app rfl ?_
  | (with_reducible show wBinV _ _ _ _ _); refine x_binV rfl ?_
  | (with_reducible show wPopD _ _ _ _); refine x_popD rfl ?_
  | (with_reducible show wCatV _ _ _ _); refine x_catV rfl ?_
  | with_reducible refine x_slN2 ?_
  | with_reducible refine x_sortedSets ?_
  | with_reducible refine x_tplL ?_
  | with_reducible refine x_tplT ?_
  | with_reducible refine x_isB ?_
  | with_reducible refine x_r1 ?_
  | with_reducible refine x_r2 ?_
  | (with_reducible refine x_r1e ?h0 ?h1 ?_); (case h0 => omega); (case h1 => omega)
  | with_reducible refine x_iL ?_
  | with_reducible refine x_iT ?_
  | with_reducible refine x_iS ?_
  | with_reducible refine x_iE ?_
  | with_reducible refine x_iEe ?_
  | with_reducible refine x_yes ?_
  | with_reducible refine x_for ?_
  | (with_reducible show wLot _ [D.int _] _); (refine' x_lot (by assumption) ?h1 ?h2 ?h3 ?_); (case h1 => omega); (case h2 => first | decide | omega); (case h3 => first | decide | omega)
  | (with_reducible show ∃ o, _ = some (some (Sl.own o)) ∧ _); refine x_exO rfl ?_
  | with_reducible refine x_exo ?_
  | with_reducible refine x_ret ?_
  | with_reducible refine x_set ?_
  | with_reducible refine x_fin ?_
  | with_reducible refine x_fino ?_
  | (with_reducible refine x_and (p := _ < List.length _) ?h ?_); (case h => exact Nat.le_of_ble_eq_true rfl); (try dsimp only [List.set_cons_succ, List.set_cons_zero])
  | with_reducible refine x_next ?_
  | with_reducible refine x_retN ?_
  | with_reducible refine x_drop ?_
  | with_reducible refine x_asg ?_
  | (with_reducible refine x_gtp ?h ?_); (case h => rfl)
  | with_reducible refine x_gcons ?_
  | with_reducible refine x_gnil ?_
  | (with_reducible refine x_gn ?h ?_); (case h => exact Nat.le_of_ble_eq_true rfl); (try dsimp only [List.set_cons_succ, List.set_cons_zero])
  | with_reducible refine x_ifS ?_
  | with_reducible refine x_if ?_
  | with_reducible refine x_itT ?_
  | with_reducible refine x_itF ?_
  | with_reducible refine x_iteN ?_
  | with_reducible refine x_tru ?_
  | with_reducible refine x_tB ?_
  | with_reducible refine x_dtB ?_
  | with_reducible refine x_dtN ?_
  | with_reducible refine x_exb ?_
  | with_reducible refine x_exdb ?_
  | with_reducible refine x_tand ?_
  | with_reducible refine x_tor ?_
  | with_reducible refine x_tnot ?_
  | with_reducible refine x_and2 ?_
  | with_reducible refine x_or2 ?_
  | with_reducible refine x_not2 ?_
  | with_reducible refine x_chain ?_
  | with_reducible refine x_sub ?_
  | with_reducible refine x_addI ?_
  | (with_reducible refine x_addS ?h ?_); (case h => walk_at "sz")
  | (with_reducible refine x_addL ?h ?_); (case h => walk_at "sz")
  | (with_reducible refine x_addT ?h ?_); (case h => walk_at "sz")
  | with_reducible refine x_lt ?_
  | with_reducible refine x_le ?_
  | with_reducible refine x_gt ?_
  | with_reducible refine x_ge ?_
  | with_reducible refine x_ltS ?_
  | with_reducible refine x_eqI ?_
  | with_reducible refine x_neI ?_
  | with_reducible refine x_allSg ?_
  | with_reducible refine x_m0 ?_
  | with_reducible refine x_lstT ?_
  | with_reducible refine x_lstL ?_
  | with_reducible refine x_strB ?_
  | with_reducible refine x_strN ?_
  | with_reducible refine x_strS ?_
  | with_reducible refine x_isT ?_
  | with_reducible refine x_isI ?_
  | with_reducible refine x_neg ?_
  | with_reducible refine x_un ?_
  | (with_reducible refine x_pow ?h ?_); (case h => exact ⟨by decide, by decide +kernel⟩)
  | (with_reducible refine x_mod ?h ?_); (case h => first | decide | omega)
  | (with_reducible refine x_mul ?h ?_); (case h => exact mul_ok (by first | decide | omega) (by first | decide | omega))
  | (with_reducible refine x_div ?h ?_); (case h => exact div_ok (by first | decide | omega) (by first | decide | omega))
  | with_reducible refine x_ipA ?_
  | (with_reducible show wAugL _ _ _ _ _ _); refine x_augL rfl ?_
  | (with_reducible show wAug _ _ _ _ _); refine x_aug rfl ?_
  | (with_reducible show ∃ k' ds d, Sl.f (D.int _) = Sl.f (D.int k') ∧ _); refine x_augL1 rfl (by decide) rfl ?_
  | (with_reducible show ∃ k' j ds, Sl.f (D.int _) = Sl.f (D.int k') ∧ _ = some (some (Sl.own (O.lst ds))) ∧ ixN _ k' = some j ∧ _); refine x_setL1 rfl rfl ?_; (try dsimp only [List.set_cons_succ, List.set_cons_zero])
  | (with_reducible show ∃ ds j, _ = some (some (Sl.own (O.lst ds))) ∧ ixN _ _ = some j ∧ _); refine x_augL2 rfl rfl ?_; (try dsimp only [List.set_cons_succ, List.set_cons_zero])
  | (with_reducible show gSetL _ _ _ _ _); refine x_setL rfl ?_
  | (with_reducible show dIx (D.lst _) (D.int _) _); refine x_ixL rfl ?_
  | (with_reducible show dIx (D.tup _) (D.int _) _); refine x_ixT rfl ?_
  | with_reducible refine x_cb ?_
  | (with_reducible show wCB1 _ _ _ _); refine x_cb1 rfl rfl ?_
  | with_reducible refine x_fm ?_
  | with_reducible refine x_exl ?_
  | with_reducible refine x_ext ?_
  | with_reducible refine x_exs ?_
  | with_reducible refine x_exi ?_
  | with_reducible refine x_sl ?_
  | with_reducible refine x_slN ?_
  | with_reducible refine x_slS ?_
  | with_reducible refine x_frz ?_
  | with_reducible refine x_frL ?_
  | with_reducible refine x_revT ?_
  | with_reducible refine x_revL ?_
  | with_reducible refine x_splitO ?_
  | (with_reducible show wSlO _ _ _ _ _); refine x_slO rfl ?_
  | (with_reducible show ∃ ds2, _ = some (some (Sl.own (O.lst ds2))) ∧ _); refine x_exOl rfl ?_
  | with_reducible refine x_dictO ?_
  | with_reducible refine x_psC ?_
  | with_reducible refine x_psN ?_
  | with_reducible refine x_get ?_
  | (with_reducible show gSetSl _ _ _ _ _ _); refine x_setSl rfl ?_
  | with_reducible refine x_split ?_
  | with_reducible refine x_isN1 ?_
  | with_reducible refine x_isN0 rfl ?_
  | with_reducible refine x_iZ ?_
  | with_reducible refine x_zT ?_
  | with_reducible refine x_zL ?_
  | with_reducible refine x_stp ?_
  | with_reducible refine x_js ?_
  | with_reducible refine x_jsC ?_
  | with_reducible refine x_jsN ?_
  | with_reducible refine x_fmt ?_
  | with_reducible refine x_callFX ?_
  | (with_reducible refine x_glp ?h ?_); (case h => rfl)
  | with_reducible refine x_raiseR ?_
  | with_reducible refine x_row ?_
  | with_reducible refine x_lenL ?_
  | with_reducible refine x_lenT ?_
  | with_reducible refine x_lenD ?_
  | (with_reducible refine x_lenS ?h ?_); (case h => walk_at "sz")
  | with_reducible refine x_max ?_
  | with_reducible refine x_min ?_
  | with_reducible refine x_intI ?_
  | with_reducible refine x_intB ?_
  | (with_reducible refine x_isInt ?h ?_); (case h => first | assumption | exact part_ty (by assumption) | (intro _ hh; cases hh; done))
  | (with_reducible refine x_isBl ?h ?_); (case h => first | assumption | exact part_ty (by assumption) | (intro _ hh; cases hh; done))
  | (with_reducible refine x_isStr ?h ?_); (case h => first | assumption | exact part_ty (by assumption) | (intro _ hh; cases hh; done))
  | (with_reducible refine x_isTup ?h ?_); (case h => first | assumption | exact part_ty (by assumption) | (intro _ hh; cases hh; done))
  | (with_reducible refine x_isLst ?h ?_); (case h => first | assumption | exact part_ty (by assumption) | (intro _ hh; cases hh; done))
  | (with_reducible refine x_isDic ?h ?_); (case h => first | assumption | exact part_ty (by assumption) | (intro _ hh; cases hh; done))
  | (with_reducible refine x_itTe ?e ?_); (case e => rfl)
  | (with_reducible refine x_itFe ?e ?_); (case e => rfl)
  | with_reducible refine x_dnewO ?_
  | with_reducible refine x_dput ?_
  | with_reducible refine x_dix ?_
  | with_reducible refine x_sortedD ?_
  | with_reducible refine x_star ?_
  | with_reducible refine x_starT ?_
  | with_reducible refine x_frzD ?_
  | with_reducible refine x_sw ?_
  | with_reducible refine x_cnt ?_
  | with_reducible refine x_waC ?_
  | with_reducible refine x_waN ?_
  | with_reducible refine x_lenDD ?_
  | with_reducible refine x_allX ?_
  | (with_reducible show wFz _ _ _ _); refine x_fz rfl ?_
  | (with_reducible show wFzS _ _ _ _); refine x_fzS rfl ?_
  | (with_reducible show wFzO _ _ _ _); refine x_fzO rfl ?_
  | (with_reducible show wiK _ _ _); refine x_iK rfl ?_
  | (with_reducible show wiIt _ _ _); refine x_iIt rfl ?_
  | with_reducible refine x_iE1 ?_
  | with_reducible refine x_forR ?_
  | (with_reducible show wDIxV _ _ _ _); refine x_dixV rfl (cd_dicO _) ?_
  | (with_reducible show wDPop _ _ _ _); refine x_dpop rfl ?_
  | with_reducible refine x_pickO ?_
  | (with_reducible show wExt _ _ _ _); refine x_extO rfl ?_
  | with_reducible refine x_sortedR ?_
  | with_reducible refine x_sortedL ?_
  | with_reducible refine x_ixSt ?_
  | (with_reducible show wiVal _ _ _); refine x_iVal rfl ?_
  | with_reducible refine x_dictP ?_
  | with_reducible refine x_dictZip ?_
  | with_reducible refine x_revS ?_
  | with_reducible refine x_par ?_
  | (with_reducible show wIsiV _ _ _ _ _); refine x_isiV rfl ?_
  | ((with_reducible show _ ∧ _); refine And.intro (Nat.le_of_ble_eq_true rfl) ?_))
local macro_rules | `(tactic| walk_at "x") => `(tactic| repeat (walk_at "x1"))

section
variable {P : Program} {w : World} {K : PySem.W.Frag} {mg : Str → Option Value} {base : Heap} {tabs : List Addr}
/-! ### the program: trees judged -/
structure Wd (oo : Str) (ns : List Str) (ts : List Ti) (xs : List Wi) : Prop where
  tr : TrOk oo ts xs
  am : Among (oo :: ns) ts xs
  nl : ns.length ≤ 6
structure CsIn (oo : Str) (ns : List Str) (cs : Case) : Prop where
  ok : CsOk cs
  k : ∀ p ∈ cs, p.1 ∈ ns
  v : ∀ p ∈ cs, p.2 ∈ oo :: ns
theorem csIn_nil (oo : Str) (ns : List Str) : CsIn oo ns [] := ⟨⟨.nil, nofun, nofun, by decide⟩, nofun, nofun⟩
theorem csIn_snoc {oo : Str} {ns : List Str} {ts : List Ti} {xs : List Wi} {cs : Case} {a g : Str} (w : Wd oo ns ts xs) (c : CsIn oo ns cs) (hn : nextV oo xs cs = some a) (hg : ∃ t ∈ ts, t.b = a ∧ t.a = g) : CsIn oo ns (cs ++ [(a, g)]) := by
  obtain ⟨an, ak⟩ := next_new hn
  have am : a ∈ ns := by
    have : a ∈ xs.map (·.a) ++ cs.map (·.2) := List.mem_of_find?_eq_some hn
    rcases List.mem_append.mp this with h | h
    · obtain ⟨x, hx, rfl⟩ := List.mem_map.mp h
      exact (List.mem_cons.mp (w.am.2 x hx)).resolve_left an
    · obtain ⟨p, hp, rfl⟩ := List.mem_map.mp h
      exact (List.mem_cons.mp (c.v p hp)).resolve_left an
  obtain ⟨t, ht, tb, ta⟩ := hg
  have mem2 : ∀ {P : Str × Str → Prop}, (∀ p ∈ cs, P p) → P (a, g) → ∀ p ∈ cs ++ [(a, g)], P p := fun h1 h2 p hp => by
    rcases List.mem_append.mp hp with hp | hp
    · exact h1 p hp
    · rw [List.mem_singleton.mp hp]; exact h2
  have nd : ((cs ++ [(a, g)]).map (·.1)).Nodup := by
    rw [List.map_append, List.nodup_append]
    exact ⟨c.ok.nd, List.nodup_cons.mpr ⟨nofun, .nil⟩, fun x hx y hy e => ak (by have e2 : y = a := List.mem_singleton.mp hy; rw [← e2, ← e]; exact hx)⟩
  have k2 := mem2 (P := fun p => p.1 ∈ ns) c.k am
  have len : (cs ++ [(a, g)]).length ≤ 6 := by
    have := nodup_le (l := (cs ++ [(a, g)]).map (·.1)) (m := ns) nd fun z hz => by
      obtain ⟨p, hp, rfl⟩ := List.mem_map.mp hz
      exact k2 p hp
    rw [List.length_map] at this
    exact Nat.le_trans this w.nl
  exact ⟨⟨nd, mem2 c.ok.a (next_name w.tr c.ok hn), mem2 c.ok.b (by rw [← ta]; exact (w.tr.hts t ht).a), len⟩, k2, mem2 c.v (by rw [← ta]; exact (w.am.1 t ht).1)⟩
def IsGv (m : Nat) : Nat → D → Prop
  | 0, _ => False
  | n + 1, d => ∃ (a : Str) (rs : List (Str × D)), d = .tup [.str "giver", .str a, .tup (rs.map rwD)] ∧ PyData.strOk a = true ∧ rs.length ≤ m ∧ ∀ r ∈ rs, PyData.strOk r.1 = true ∧ IsTr m n r.2
def wGoes (m n : Nat) : WFn := fun ds Q => ∃ (oo : Str) (ns : List Str) (ts : List Ti) (xs : List Wi) (most : Option Int) (cs : Case) (d : D), ds = [trustD oo ts xs, mostD most, cD cs, d] ∧ Wd oo ns ts xs ∧ CsIn oo ns cs ∧ IsGv m n d ∧ Q (.f (.bl (holdsV oo ts xs most n cs d)))
def wHolds (m n : Nat) : WFn := fun ds Q => ∃ (oo : Str) (ns : List Str) (ts : List Ti) (xs : List Wi) (most : Option Int) (cs : Case) (d : D), ds = [trustD oo ts xs, mostD most, cD cs, d] ∧ Wd oo ns ts xs ∧ CsIn oo ns cs ∧ IsTr m n d ∧ Q (.f (.bl (holdsV oo ts xs most n cs d)))
/-! what is no tree, where no more is too many -/
def BadRow (b : D) : Prop := (NoTy b ∧ isTup b = false) ∨ (∃ l, b = .tup l ∧ l.length ≠ 2) ∨ ∃ x t, b = .tup [x, t] ∧ NoTy x ∧ isStr x = false
structure BadGo (oo : Str) (ts : List Ti) (xs : List Wi) (cs : Case) (w y : Str) (t : D) : Prop where
  hw : PyData.strOk w = true
  hy : PyData.strOk y = true
  no : w ≠ "giver" ∨ (nextV oo xs cs = some y ∧ ((isTup t = false ∧ NoTy t) ∨ ∃ ys l, IsTied ts y ys ∧ t = .tup l ∧ (l.length ≠ ys.length ∨ ∃ b post, l = b :: post ∧ l.length = ys.length ∧ BadRow b)))
def Bd0 (oo : Str) (ts : List Ti) (xs : List Wi) (cs : Case) (d : D) : Prop := (isTup d = false ∧ NoTy d) ∨ (∃ l, d = .tup l ∧ (∀ z ∈ l.take 2, NoTy z) ∧ (l.take 2).all isStr = false) ∨ (∃ l, d = .tup l ∧ BadBar cs l) ∨ ∃ (w y : Str) (t : D), d = .tup [.str w, .str y, t] ∧ BadGo oo ts xs cs w y t
/-- a row of rows that is bad, those ahead of it hold -/
structure BdR (oo : Str) (ts : List Ti) (xs : List Wi) (n : Nat) (cs : Case) (bad : Case → D → Prop) (y : Str) (l : List D) : Prop where
  hy : PyData.strOk y = true
  nx : nextV oo xs cs = some y
  ex : ∃ (ys : List Str) (pre : List (Str × D)) (g : Str) (t : D) (post : List D), l = pre.map rwD ++ rwD (g, t) :: post ∧ IsTied ts y ys ∧ ys.length = pre.length + 1 + post.length ∧ (pre.map (·.1) ++ [g]) = ys.take (pre.length + 1) ∧ (∀ r ∈ pre, IsTr 20 n r.2 ∧ holdsV oo ts xs none n (cs ++ [(y, r.1)]) r.2 = true) ∧ bad (cs ++ [(y, g)]) t
def Bd (oo : Str) (ts : List Ti) (xs : List Wi) : Nat → Case → D → Prop
  | 0, cs, d => Bd0 oo ts xs cs d
  | n + 1, cs, d => Bd0 oo ts xs cs d ∨ ∃ (y : Str) (l : List D), d = .tup [.str "giver", .str y, .tup l] ∧ BdR oo ts xs n cs (Bd oo ts xs n) y l
def BdG (oo : Str) (ts : List Ti) (xs : List Wi) : Nat → Case → Str → Str → D → Prop
  | 0, cs, w, y, t => BadGo oo ts xs cs w y t
  | n + 1, cs, w, y, t => BadGo oo ts xs cs w y t ∨ (w = "giver" ∧ ∃ l, t = .tup l ∧ BdR oo ts xs n cs (Bd oo ts xs n) y l)
def wGoesX (n : Nat) : WFn := fun ds Q => ∃ (oo : Str) (ns : List Str) (ts : List Ti) (xs : List Wi) (cs : Case) (w y : Str) (t : D), ds = [trustD oo ts xs, .non, cD cs, .tup [.str w, .str y, t]] ∧ Wd oo ns ts xs ∧ CsIn oo ns cs ∧ BdG oo ts xs n cs w y t ∧ Q (.f (.bl false))
def wHoldsX (n : Nat) : WFn := fun ds Q => ∃ (oo : Str) (ns : List Str) (ts : List Ti) (xs : List Wi) (cs : Case) (d : D), ds = [trustD oo ts xs, .non, cD cs, d] ∧ Wd oo ns ts xs ∧ CsIn oo ns cs ∧ Bd oo ts xs n cs d ∧ Q (.f (.bl false))
def wGoesA (n : Nat) : WFn := fun ds Q => wGoes 20 n ds Q ∨ wGoesX n ds Q
def wHE : Nat → WFn
  | 0 => fun _ _ => False
  | n + 1 => fun ds Q => wHolds 20 n ds Q ∨ wHoldsX n ds Q
theorem mono__goes_on {n : Nat} : MonoF (wGoesA n) := fun ds Q Q' i h => h.elim (fun ⟨oo, ns, ts, xs, most, cs, d, h1, h2, h3, h4, q⟩ => .inl ⟨oo, ns, ts, xs, most, cs, d, h1, h2, h3, h4, i _ q⟩) fun ⟨oo, ns, ts, xs, cs, w, y, t, h1, h2, h3, h4, q⟩ => .inr ⟨oo, ns, ts, xs, cs, w, y, t, h1, h2, h3, h4, i _ q⟩
theorem mono__holds : ∀ {n : Nat}, MonoF (wHE n)
  | 0 => fun _ _ _ _ h => h
  | n + 1 => fun ds Q Q' i h => h.elim (fun ⟨oo, ns, ts, xs, most, cs, d, h1, h2, h3, h4, q⟩ => .inl ⟨oo, ns, ts, xs, most, cs, d, h1, h2, h3, h4, i _ q⟩) fun ⟨oo, ns, ts, xs, cs, d, h1, h2, h3, h4, q⟩ => .inr ⟨oo, ns, ts, xs, cs, d, h1, h2, h3, h4, i _ q⟩
theorem len__goes {n : Nat} {ds : List D} {Q : Sl → Prop} (h : wGoesA n ds Q) : ds.length = 4 := by
  rcases h with ⟨_, _, _, _, _, _, _, h, _⟩ | ⟨_, _, _, _, _, _, _, _, h, _⟩ <;> rw [h] <;> rfl
theorem len__holds {n : Nat} {ds : List D} {Q : Sl → Prop} (h : wHE (n + 1) ds Q) : ds.length = 4 := by
  rcases h with ⟨_, _, _, _, _, _, _, h, _⟩ | ⟨_, _, _, _, _, _, h, _⟩ <;> rw [h] <;> rfl
theorem leaf_v {oo : Str} {ts : List Ti} {xs : List Wi} {most : Option Int} {n : Nat} {cs : Case} {d : D} (h : Leaf79 d) : holdsV oo ts xs most n cs d = barV oo ts xs most cs d := by
  rcases h with rfl | ⟨a, _, rfl | rfl⟩ <;> cases n <;> rfl
theorem rw_parts {r : Str × D} : rwD r = .tup [.str r.1, r.2] := rfl
theorem ok_holds0 (k : Nat) (A : At K mg "_holds" s__holds ["trust", "most", "settled", "tree"]) : Cal P w K mg base (k + 1) "_holds" (spW K tabs (liftF (wHE 0))) := by
  refine A.of fun f fd F => fx_fnF F sc__holds (fun ds Q h => h.elim) fun cdv A outer s H E TT P0 σ0 hcd hr => ⟨fun _ _ => False, ⟨⟨fun pins s σ H D I ⟨_, _, _, _, h⟩ => h.elim⟩, fun _ _ _ _ h => h⟩, fun ds Q h => h⟩
theorem strs_at {pre : List D} (h : ∀ x ∈ pre, ∃ w : Str, x = .str w) {i : Nat} {d : D} (hd : pre[i]? = some d) : ∃ w : Str, d = .str w := h d (List.mem_of_getElem? hd)
theorem cut2_to {ds : List D} : Fx.cutD ds none (some 2) = ds.take 2 := by
  match ds with
  | [] => rfl
  | [x] => rfl
  | x :: y :: r => exact cut_to (by decide) (by rw [List.length_cons, List.length_cons]; omega)
theorem ok_holds {n k : Nat} (hk : 4 ≤ k) (T : Txt K mg) (c__goes_on : Cal P w K mg base k "_goes_on" (spW K tabs (liftF (wGoesA n)))) (c__bars : Cal P w K mg base 3 "_bars" (spW K tabs (liftF wBarsA)))
    (A : At K mg "_holds" s__holds ["trust", "most", "settled", "tree"]) : Cal P w K mg base (k + 1) "_holds" (spW K tabs (liftF (wHE (n + 1)))) := by
  refine A.of fun f fd F => fx_fnF F sc__holds (fun ds Q h => len__holds h) fun cdv A outer s H E TT P0 σ0 hcd hr => ⟨_, (gss_cons (gs_if (GW.gt (gw_or (gt_not (gt_tru (ge_cbB cax_isi (by rfl) T.z_isinstance (by decide +kernel) (gd_cons (GE.of_pure (gp_var (pv 3))) (gd_cons (GE.of_pure (gp_ty (n := "tuple") (by rfl) T.z_tuple (by decide +kernel))) gd_nil))))) (gw_or1 (gt_not (gt_tru (ge_cbB (cax_all rfl) (by rfl) T.z_all (by decide +kernel) (gd_cons (ge_frz (ge_lcR (own := [("part", 4)]) (t := .name 4) rfl sc__holds.nd (gi_tup (ge_sl (GE.of_pure (gp_var (pv 3))) go_none (go_some (GE.of_pure gp_int)))) (blkOk_by (own := [("part", 4)]) (N := ["trust", "most", "settled", "tree", "part"]) (sc := defScope s__holds) (by decide +kernel)) (fun _ _ _ _ _ => (pg_name (i := 4) sc__holds.nd rfl (Or.inl rfl))) (fun _ _ _ _ _ => (ge_cbB cax_isi (by rfl) T.z_isinstance (by decide +kernel) (gd_cons (GE.of_pure (gp_var (pv 4))) (gd_cons (GE.of_pure (gp_ty (n := "str") (by rfl) T.z_str (by decide +kernel))) gd_nil)))) (by decide) (mem1 rfl) (mem1 (Nat.le_of_ble_eq_true rfl)))) gd_nil)))))))
      (gss_one (gs_ret (GE.of_pure gp_bl)))
      gss_nil)
      (gss_cons (gs_if (gt_cmp (opx_eq hr.units) (ge_cbB1 cax_len (by rfl) T.z_len (by decide +kernel) (pv 3)) (GE.of_pure gp_int) (nomark _))
      (gss_one (gs_ret (ge_callF c__goes_on hr (by first | decide | omega) rfl rfl rfl mono__goes_on (gd_cons (GE.of_pure (gp_var (pv 0))) (gd_cons (GE.of_pure (gp_var (pv 1))) (gd_cons (GE.of_pure (gp_var (pv 2))) (gd_cons (GE.of_pure (gp_var (pv 3))) gd_nil)))))))
      gss_nil)
      (gss_one (gs_ret (ge_callF c__bars hr (by first | decide | omega) rfl rfl rfl mono__bars (gd_cons (GE.of_pure (gp_var (pv 0))) (gd_cons (GE.of_pure (gp_var (pv 1))) (gd_cons (GE.of_pure (gp_var (pv 2))) (gd_cons (GE.of_pure (gp_var (pv 3))) gd_nil))))))))), fun ds Q h0 => ?_⟩
  rcases h0 with ⟨oo, ns, ts, xs, most, cs, d, e, wd, ci, ht, q⟩ | ⟨oo, ns, ts, xs, cs, d, e, wd, ci, bd, q⟩
  · subst e
    have leaf : Leaf79 d ∨ IsGv 20 n d := by
      cases n with
      | zero => exact .inl ht
      | succ n => exact ht
    rcases leaf with lf | gv
    · rw [leaf_v lf] at q
      rcases id lf with rfl | ⟨a, ha, rfl | rfl⟩
      · refine x_start (e := [some (.f (.tup [.str oo, .tup (ts.map Ti.d), .tup (xs.map Wi.d)])), some (.f (mostD most)), some (.f (cD cs)), some (.f (.tup [.str "many"])), none]) rfl ?_
        walk_at "x"
        refine x_slT (ds' := [.str "many"]) rfl ?_
        walk_at "x"
        refine ⟨fun i acc e => acc = List.replicate i (D.bl true) ∧ ∃ x4, e = [some (.f (.tup [.str oo, .tup (ts.map Ti.d), .tup (xs.map Wi.d)])), some (.f (mostD most)), some (.f (cD cs)), some (.f (.tup [.str "many"])), x4], ⟨rfl, _, rfl⟩, ?_, ?_⟩
        · rintro i d acc e hd ⟨rfl, x4, rfl⟩
          obtain ⟨w, rfl⟩ := strs_at (pre := [.str "many"]) (by intro x hx; rw [List.mem_singleton.mp hx]; exact ⟨_, rfl⟩) hd
          refine ⟨_, rfl, ?_⟩
          dsimp only [List.map_cons, List.map_nil, wipeE, setE, Tgt.js, List.set_cons_zero, List.set_cons_succ]
          walk_at "x"
          exact ⟨by rw [List.replicate_succ']; rfl, _, rfl⟩
        rintro acc e ⟨rfl, x4, rfl⟩
        try dsimp only [List.map_cons, List.map_nil, wipeE, List.set_cons_zero, List.set_cons_succ]
        walk_at "x"
        refine x_all (bs := List.replicate ([.str "many"] : List D).length true) ?_
        rw [show (List.replicate ([.str "many"] : List D).length true).all id = true from rfl]
        walk_at "x"
        refine .inl ⟨oo, ts, xs, most, cs, _, rfl, wd.tr, ci.ok, lf, ?_⟩
        walk_at "x"
        exact q
      · refine x_start (e := [some (.f (.tup [.str oo, .tup (ts.map Ti.d), .tup (xs.map Wi.d)])), some (.f (mostD most)), some (.f (cD cs)), some (.f (.tup [.str "ring", .str a])), none]) rfl ?_
        walk_at "x"
        refine x_slT (ds' := [.str "ring", .str a]) rfl ?_
        walk_at "x"
        refine ⟨fun i acc e => acc = List.replicate i (D.bl true) ∧ ∃ x4, e = [some (.f (.tup [.str oo, .tup (ts.map Ti.d), .tup (xs.map Wi.d)])), some (.f (mostD most)), some (.f (cD cs)), some (.f (.tup [.str "ring", .str a])), x4], ⟨rfl, _, rfl⟩, ?_, ?_⟩
        · rintro i d acc e hd ⟨rfl, x4, rfl⟩
          obtain ⟨w, rfl⟩ := strs_at (pre := [.str "ring", .str a]) (by intro x hx; rcases List.mem_cons.mp hx with rfl | hx; exact ⟨_, rfl⟩; rw [List.mem_singleton.mp hx]; exact ⟨_, rfl⟩) hd
          refine ⟨_, rfl, ?_⟩
          dsimp only [List.map_cons, List.map_nil, wipeE, setE, Tgt.js, List.set_cons_zero, List.set_cons_succ]
          walk_at "x"
          exact ⟨by rw [List.replicate_succ']; rfl, _, rfl⟩
        rintro acc e ⟨rfl, x4, rfl⟩
        try dsimp only [List.map_cons, List.map_nil, wipeE, List.set_cons_zero, List.set_cons_succ]
        walk_at "x"
        refine x_all (bs := List.replicate ([.str "ring", .str a] : List D).length true) ?_
        rw [show (List.replicate ([.str "ring", .str a] : List D).length true).all id = true from rfl]
        walk_at "x"
        refine .inl ⟨oo, ts, xs, most, cs, _, rfl, wd.tr, ci.ok, lf, ?_⟩
        walk_at "x"
        exact q
      · refine x_start (e := [some (.f (.tup [.str oo, .tup (ts.map Ti.d), .tup (xs.map Wi.d)])), some (.f (mostD most)), some (.f (cD cs)), some (.f (.tup [.str "time", .str a])), none]) rfl ?_
        walk_at "x"
        refine x_slT (ds' := [.str "time", .str a]) rfl ?_
        walk_at "x"
        refine ⟨fun i acc e => acc = List.replicate i (D.bl true) ∧ ∃ x4, e = [some (.f (.tup [.str oo, .tup (ts.map Ti.d), .tup (xs.map Wi.d)])), some (.f (mostD most)), some (.f (cD cs)), some (.f (.tup [.str "time", .str a])), x4], ⟨rfl, _, rfl⟩, ?_, ?_⟩
        · rintro i d acc e hd ⟨rfl, x4, rfl⟩
          obtain ⟨w, rfl⟩ := strs_at (pre := [.str "time", .str a]) (by intro x hx; rcases List.mem_cons.mp hx with rfl | hx; exact ⟨_, rfl⟩; rw [List.mem_singleton.mp hx]; exact ⟨_, rfl⟩) hd
          refine ⟨_, rfl, ?_⟩
          dsimp only [List.map_cons, List.map_nil, wipeE, setE, Tgt.js, List.set_cons_zero, List.set_cons_succ]
          walk_at "x"
          exact ⟨by rw [List.replicate_succ']; rfl, _, rfl⟩
        rintro acc e ⟨rfl, x4, rfl⟩
        try dsimp only [List.map_cons, List.map_nil, wipeE, List.set_cons_zero, List.set_cons_succ]
        walk_at "x"
        refine x_all (bs := List.replicate ([.str "time", .str a] : List D).length true) ?_
        rw [show (List.replicate ([.str "time", .str a] : List D).length true).all id = true from rfl]
        walk_at "x"
        refine .inl ⟨oo, ts, xs, most, cs, _, rfl, wd.tr, ci.ok, lf, ?_⟩
        walk_at "x"
        exact q
    · obtain ⟨a, rs, rfl⟩ : ∃ (a : Str) (rs : List (Str × D)), d = .tup [.str "giver", .str a, .tup (rs.map rwD)] := by
        cases n with
        | zero => exact gv.elim
        | succ n => obtain ⟨a, rs, e, _⟩ := gv; exact ⟨a, rs, e⟩
      refine x_start (e := [some (.f (.tup [.str oo, .tup (ts.map Ti.d), .tup (xs.map Wi.d)])), some (.f (mostD most)), some (.f (cD cs)), some (.f (.tup [.str "giver", .str a, .tup (rs.map rwD)])), none]) rfl ?_
      walk_at "x"
      refine x_slT (ds' := [.str "giver", .str a]) rfl ?_
      walk_at "x"
      refine ⟨fun i acc e => acc = List.replicate i (D.bl true) ∧ ∃ x4, e = [some (.f (.tup [.str oo, .tup (ts.map Ti.d), .tup (xs.map Wi.d)])), some (.f (mostD most)), some (.f (cD cs)), some (.f (.tup [.str "giver", .str a, .tup (rs.map rwD)])), x4], ⟨rfl, _, rfl⟩, ?_, ?_⟩
      · rintro i d acc e hd ⟨rfl, x4, rfl⟩
        obtain ⟨w, rfl⟩ := strs_at (pre := [.str "giver", .str a]) (by intro x hx; rcases List.mem_cons.mp hx with rfl | hx; exact ⟨_, rfl⟩; rw [List.mem_singleton.mp hx]; exact ⟨_, rfl⟩) hd
        refine ⟨_, rfl, ?_⟩
        dsimp only [List.map_cons, List.map_nil, wipeE, setE, Tgt.js, List.set_cons_zero, List.set_cons_succ]
        walk_at "x"
        exact ⟨by rw [List.replicate_succ']; rfl, _, rfl⟩
      rintro acc e ⟨rfl, x4, rfl⟩
      try dsimp only [List.map_cons, List.map_nil, wipeE, List.set_cons_zero, List.set_cons_succ]
      walk_at "x"
      refine x_all (bs := List.replicate ([.str "giver", .str a] : List D).length true) ?_
      rw [show (List.replicate ([.str "giver", .str a] : List D).length true).all id = true from rfl]
      walk_at "x"
      refine .inl ⟨oo, ns, ts, xs, most, cs, _, rfl, wd, ci, gv, ?_⟩
      walk_at "x"
      exact q
  · subst e
    have sp : Bd0 oo ts xs cs d ∨ ∃ (y : Str) (l : List D), d = .tup [.str "giver", .str y, .tup l] ∧ BdG oo ts xs n cs "giver" y (.tup l) := by
      cases n with
      | zero => exact .inl bd
      | succ n => exact bd.imp id fun ⟨y, l, e, h⟩ => ⟨y, l, e, .inr ⟨rfl, l, rfl, h⟩⟩
    rcases sp with (⟨nt, ny⟩ | ⟨l, rfl, hz, al⟩ | ⟨l, rfl, bb⟩ | ⟨w, y, t, rfl, bg0⟩) | ⟨y, l, rfl, bg⟩
    · refine x_start (e := [some (.f (.tup [.str oo, .tup (ts.map Ti.d), .tup (xs.map Wi.d)])), some (.f .non), some (.f (cD cs)), some (.f d), none]) rfl ?_
      walk_at "x"
      rw [nt]
      walk_at "x"
      exact q
    · refine x_start (e := [some (.f (.tup [.str oo, .tup (ts.map Ti.d), .tup (xs.map Wi.d)])), some (.f .non), some (.f (cD cs)), some (.f (.tup l)), none]) rfl ?_
      walk_at "x"
      refine x_slT cut2_to ?_
      generalize hpre : l.take 2 = pre at hz al
      walk_at "x"
      have pl : pre.length ≤ 2 := by rw [← hpre, List.length_take]; omega
      refine ⟨by omega, fun i acc e => acc = ((pre.take i).map isStr).map D.bl ∧ ∃ x4, e = [some (.f (.tup [.str oo, .tup (ts.map Ti.d), .tup (xs.map Wi.d)])), some (.f .non), some (.f (cD cs)), some (.f (.tup l)), x4], ⟨rfl, _, rfl⟩, ?_, ?_⟩
      · rintro i d acc e hd ⟨rfl, x4, rfl⟩
        have nd := hz d (List.mem_of_getElem? hd)
        refine ⟨_, rfl, ?_⟩
        dsimp only [List.map_cons, List.map_nil, wipeE, setE, Tgt.js, List.set_cons_zero, List.set_cons_succ]
        walk_at "x"
        exact ⟨by rw [take_snoc hd, List.map_append, List.map_append]; rfl, _, rfl⟩
      rintro acc e ⟨rfl, x4, rfl⟩
      rw [List.take_length]
      try dsimp only [List.map_cons, List.map_nil, wipeE, List.set_cons_zero, List.set_cons_succ]
      walk_at "x"
      refine x_all (bs := pre.map isStr) ?_
      rw [List.all_map, show (id ∘ isStr) = isStr from rfl, al]
      walk_at "x"
      exact q
    · rcases id bb with rfl | ⟨w, rfl, hw⟩ | ⟨w, y, rfl, hw, hy, nb⟩ | ⟨w, y, a, b, rfl⟩
      · refine x_start (e := [some (.f (.tup [.str oo, .tup (ts.map Ti.d), .tup (xs.map Wi.d)])), some (.f (.non)), some (.f (cD cs)), some (.f (.tup [])), none]) rfl ?_
        walk_at "x"
        refine x_slT (ds' := []) rfl ?_
        walk_at "x"
        refine ⟨fun i acc e => acc = List.replicate i (D.bl true) ∧ ∃ x4, e = [some (.f (.tup [.str oo, .tup (ts.map Ti.d), .tup (xs.map Wi.d)])), some (.f (.non)), some (.f (cD cs)), some (.f (.tup [])), x4], ⟨rfl, _, rfl⟩, ?_, ?_⟩
        · rintro i d acc e hd ⟨rfl, x4, rfl⟩
          obtain ⟨w, rfl⟩ := strs_at (pre := []) (by intro x hx; cases hx) hd
          refine ⟨_, rfl, ?_⟩
          dsimp only [List.map_cons, List.map_nil, wipeE, setE, Tgt.js, List.set_cons_zero, List.set_cons_succ]
          walk_at "x"
          exact ⟨by rw [List.replicate_succ']; rfl, _, rfl⟩
        rintro acc e ⟨rfl, x4, rfl⟩
        try dsimp only [List.map_cons, List.map_nil, wipeE, List.set_cons_zero, List.set_cons_succ]
        walk_at "x"
        refine x_all (bs := List.replicate ([] : List D).length true) ?_
        rw [show (List.replicate ([] : List D).length true).all id = true from rfl]
        walk_at "x"
        refine .inr ⟨oo, ts, xs, cs, _, rfl, wd.tr, ci.ok, bb, ?_⟩
        walk_at "x"
        exact q
      · refine x_start (e := [some (.f (.tup [.str oo, .tup (ts.map Ti.d), .tup (xs.map Wi.d)])), some (.f (.non)), some (.f (cD cs)), some (.f (.tup [.str w])), none]) rfl ?_
        walk_at "x"
        refine x_slT (ds' := [.str w]) rfl ?_
        walk_at "x"
        refine ⟨fun i acc e => acc = List.replicate i (D.bl true) ∧ ∃ x4, e = [some (.f (.tup [.str oo, .tup (ts.map Ti.d), .tup (xs.map Wi.d)])), some (.f (.non)), some (.f (cD cs)), some (.f (.tup [.str w])), x4], ⟨rfl, _, rfl⟩, ?_, ?_⟩
        · rintro i d acc e hd ⟨rfl, x4, rfl⟩
          obtain ⟨w, rfl⟩ := strs_at (pre := [.str w]) (by intro x hx; rw [List.mem_singleton.mp hx]; exact ⟨_, rfl⟩) hd
          refine ⟨_, rfl, ?_⟩
          dsimp only [List.map_cons, List.map_nil, wipeE, setE, Tgt.js, List.set_cons_zero, List.set_cons_succ]
          walk_at "x"
          exact ⟨by rw [List.replicate_succ']; rfl, _, rfl⟩
        rintro acc e ⟨rfl, x4, rfl⟩
        try dsimp only [List.map_cons, List.map_nil, wipeE, List.set_cons_zero, List.set_cons_succ]
        walk_at "x"
        refine x_all (bs := List.replicate ([.str w] : List D).length true) ?_
        rw [show (List.replicate ([.str w] : List D).length true).all id = true from rfl]
        walk_at "x"
        refine .inr ⟨oo, ts, xs, cs, _, rfl, wd.tr, ci.ok, bb, ?_⟩
        walk_at "x"
        exact q
      · refine x_start (e := [some (.f (.tup [.str oo, .tup (ts.map Ti.d), .tup (xs.map Wi.d)])), some (.f (.non)), some (.f (cD cs)), some (.f (.tup [.str w, .str y])), none]) rfl ?_
        walk_at "x"
        refine x_slT (ds' := [.str w, .str y]) rfl ?_
        walk_at "x"
        refine ⟨fun i acc e => acc = List.replicate i (D.bl true) ∧ ∃ x4, e = [some (.f (.tup [.str oo, .tup (ts.map Ti.d), .tup (xs.map Wi.d)])), some (.f (.non)), some (.f (cD cs)), some (.f (.tup [.str w, .str y])), x4], ⟨rfl, _, rfl⟩, ?_, ?_⟩
        · rintro i d acc e hd ⟨rfl, x4, rfl⟩
          obtain ⟨w, rfl⟩ := strs_at (pre := [.str w, .str y]) (by intro x hx; rcases List.mem_cons.mp hx with rfl | hx; exact ⟨_, rfl⟩; rw [List.mem_singleton.mp hx]; exact ⟨_, rfl⟩) hd
          refine ⟨_, rfl, ?_⟩
          dsimp only [List.map_cons, List.map_nil, wipeE, setE, Tgt.js, List.set_cons_zero, List.set_cons_succ]
          walk_at "x"
          exact ⟨by rw [List.replicate_succ']; rfl, _, rfl⟩
        rintro acc e ⟨rfl, x4, rfl⟩
        try dsimp only [List.map_cons, List.map_nil, wipeE, List.set_cons_zero, List.set_cons_succ]
        walk_at "x"
        refine x_all (bs := List.replicate ([.str w, .str y] : List D).length true) ?_
        rw [show (List.replicate ([.str w, .str y] : List D).length true).all id = true from rfl]
        walk_at "x"
        refine .inr ⟨oo, ts, xs, cs, _, rfl, wd.tr, ci.ok, bb, ?_⟩
        walk_at "x"
        exact q
      · refine x_start (e := [some (.f (.tup [.str oo, .tup (ts.map Ti.d), .tup (xs.map Wi.d)])), some (.f (.non)), some (.f (cD cs)), some (.f (.tup [.str w, .str y, a, b])), none]) rfl ?_
        walk_at "x"
        refine x_slT (ds' := [.str w, .str y]) rfl ?_
        walk_at "x"
        refine ⟨fun i acc e => acc = List.replicate i (D.bl true) ∧ ∃ x4, e = [some (.f (.tup [.str oo, .tup (ts.map Ti.d), .tup (xs.map Wi.d)])), some (.f (.non)), some (.f (cD cs)), some (.f (.tup [.str w, .str y, a, b])), x4], ⟨rfl, _, rfl⟩, ?_, ?_⟩
        · rintro i d acc e hd ⟨rfl, x4, rfl⟩
          obtain ⟨w, rfl⟩ := strs_at (pre := [.str w, .str y]) (by intro x hx; rcases List.mem_cons.mp hx with rfl | hx; exact ⟨_, rfl⟩; rw [List.mem_singleton.mp hx]; exact ⟨_, rfl⟩) hd
          refine ⟨_, rfl, ?_⟩
          dsimp only [List.map_cons, List.map_nil, wipeE, setE, Tgt.js, List.set_cons_zero, List.set_cons_succ]
          walk_at "x"
          exact ⟨by rw [List.replicate_succ']; rfl, _, rfl⟩
        rintro acc e ⟨rfl, x4, rfl⟩
        try dsimp only [List.map_cons, List.map_nil, wipeE, List.set_cons_zero, List.set_cons_succ]
        walk_at "x"
        refine x_all (bs := List.replicate ([.str w, .str y] : List D).length true) ?_
        rw [show (List.replicate ([.str w, .str y] : List D).length true).all id = true from rfl]
        walk_at "x"
        refine .inr ⟨oo, ts, xs, cs, _, rfl, wd.tr, ci.ok, bb, ?_⟩
        walk_at "x"
        exact q
    · have bg : BdG oo ts xs n cs w y t := by
        cases n with
        | zero => exact bg0
        | succ n => exact .inl bg0
      refine x_start (e := [some (.f (.tup [.str oo, .tup (ts.map Ti.d), .tup (xs.map Wi.d)])), some (.f (.non)), some (.f (cD cs)), some (.f (.tup [.str w, .str y, t])), none]) rfl ?_
      walk_at "x"
      refine x_slT (ds' := [.str w, .str y]) rfl ?_
      walk_at "x"
      refine ⟨fun i acc e => acc = List.replicate i (D.bl true) ∧ ∃ x4, e = [some (.f (.tup [.str oo, .tup (ts.map Ti.d), .tup (xs.map Wi.d)])), some (.f (.non)), some (.f (cD cs)), some (.f (.tup [.str w, .str y, t])), x4], ⟨rfl, _, rfl⟩, ?_, ?_⟩
      · rintro i d acc e hd ⟨rfl, x4, rfl⟩
        obtain ⟨w, rfl⟩ := strs_at (pre := [.str w, .str y]) (by intro x hx; rcases List.mem_cons.mp hx with rfl | hx; exact ⟨_, rfl⟩; rw [List.mem_singleton.mp hx]; exact ⟨_, rfl⟩) hd
        refine ⟨_, rfl, ?_⟩
        dsimp only [List.map_cons, List.map_nil, wipeE, setE, Tgt.js, List.set_cons_zero, List.set_cons_succ]
        walk_at "x"
        exact ⟨by rw [List.replicate_succ']; rfl, _, rfl⟩
      rintro acc e ⟨rfl, x4, rfl⟩
      try dsimp only [List.map_cons, List.map_nil, wipeE, List.set_cons_zero, List.set_cons_succ]
      walk_at "x"
      refine x_all (bs := List.replicate ([.str w, .str y] : List D).length true) ?_
      rw [show (List.replicate ([.str w, .str y] : List D).length true).all id = true from rfl]
      walk_at "x"
      refine .inr ⟨oo, ns, ts, xs, cs, _, _, _, rfl, wd, ci, bg, ?_⟩
      walk_at "x"
      exact q
    · refine x_start (e := [some (.f (.tup [.str oo, .tup (ts.map Ti.d), .tup (xs.map Wi.d)])), some (.f (.non)), some (.f (cD cs)), some (.f (.tup [.str "giver", .str y, .tup l])), none]) rfl ?_
      walk_at "x"
      refine x_slT (ds' := [.str "giver", .str y]) rfl ?_
      walk_at "x"
      refine ⟨fun i acc e => acc = List.replicate i (D.bl true) ∧ ∃ x4, e = [some (.f (.tup [.str oo, .tup (ts.map Ti.d), .tup (xs.map Wi.d)])), some (.f (.non)), some (.f (cD cs)), some (.f (.tup [.str "giver", .str y, .tup l])), x4], ⟨rfl, _, rfl⟩, ?_, ?_⟩
      · rintro i d acc e hd ⟨rfl, x4, rfl⟩
        obtain ⟨w, rfl⟩ := strs_at (pre := [.str "giver", .str y]) (by intro x hx; rcases List.mem_cons.mp hx with rfl | hx; exact ⟨_, rfl⟩; rw [List.mem_singleton.mp hx]; exact ⟨_, rfl⟩) hd
        refine ⟨_, rfl, ?_⟩
        dsimp only [List.map_cons, List.map_nil, wipeE, setE, Tgt.js, List.set_cons_zero, List.set_cons_succ]
        walk_at "x"
        exact ⟨by rw [List.replicate_succ']; rfl, _, rfl⟩
      rintro acc e ⟨rfl, x4, rfl⟩
      try dsimp only [List.map_cons, List.map_nil, wipeE, List.set_cons_zero, List.set_cons_succ]
      walk_at "x"
      refine x_all (bs := List.replicate ([.str "giver", .str y] : List D).length true) ?_
      rw [show (List.replicate ([.str "giver", .str y] : List D).length true).all id = true from rfl]
      walk_at "x"
      refine .inr ⟨oo, ns, ts, xs, cs, _, _, _, rfl, wd, ci, bg, ?_⟩
      walk_at "x"
      exact q

end
end K80

namespace K80
open PySem PySem.Spec PyProof.Rows L2 Lk Evl Fx


local macro_rules | `(tactic| walk_at "sz") => `(tactic| first
  | exact Nat.le_of_ble_eq_true rfl
  | assumption
  | exact small_sz (Nat.le_of_ble_eq_true rfl)
  | (simp only [List.length_cons, List.length_nil, List.length_map, List.length_append]; first | omega | exact small_sz (by omega)))
local macro_rules | `(tactic| walk_at "x1") => `(tactic| first
  | with_reducible refine x_seq ?_
  | (with_reducible show wVar _ _ _); first | refine x_varF rfl ?_ | refine x_varO rfl ?_ | refine x_varV rfl ?_
  | with_reducible refine x_c ?_
  | with_reducible refine x_exf ?_
  | with_reducible refine x_excd ?_
  | (with_reducible show ∃ d1, Sl.cd (Sl.vw _) = some d1 ∧ _); refine x_excV rfl ?_
  | (with_reducible show ∃ d1, Sl.cd (Sl.own _) = some d1 ∧ _); refine x_excO rfl ?_
  | with_reducible refine x_binP ?_
  | with_reducible refine x_bin ?_
  | with_reducible refine x_adC ?_
  | with_reducible refine x_adN ?_
  | with_reducible refine x_lst ?_
  | with_reducible refine x_tup ?_
  | with_reducible refine x_lstO ?_
  | (with_reducible refine x_and (p := _ ≤ sizeLine) ?h ?_); (case h => walk_at "sz")
  | with_reducible refine x_callF ?_
  | with_reducible refine x_callL ?_
  | with_reducible refine x_listO ?_
  | with_reducible refine x_dstar ?_
  | with_reducible refine x_getN ?_
  | with_reducible refine x_ss ?_
  | with_reducible refine x_mulO ?_
  | with_reducible refine x_iZM ?_
  | (with_reducible show wCallU _ _ _ _ _); refine x_callU rfl ?_
  | with_reducible refine x_callV ?_
  | with_reducible refine x_join ?_
  | with_reducible refine x_waD ?_
  | with_reducible refine x_lc ?_
  | with_reducible refine x_lc2 ?_
  | with_reducible refine x_lenSets ?_
  | (with_reducible show wApp _ _ _ _); refine x_app rfl ?_
  | (with_reducible show wBinV _ _ _ _ _); refine x_binV rfl ?_
  | (with_reducible show wPopD _ _ _ _); refine x_popD rfl ?_
  | (with_reducible show wCatV _ _ _ _); refine x_catV rfl ?_
  | with_reducible refine x_slN2 ?_
  | with_reducible refine x_sortedSets ?_
  | with_reducible refine x_tplL ?_
  | with_reducible refine x_tplT ?_
  | with_reducible refine x_isB ?_
  | with_reducible refine x_r1 ?_
  | with_reducible refine x_r2 ?_
  | (with_reducible refine x_r1e ?h0 ?h1 ?_); (case h0 => omega); (case h1 => omega)
  | with_reducible refine x_iL ?_
  | with_reducible refine x_iT ?_
  | with_reducible refine x_iS ?_
  | with_reducible refine x_iE ?_
  | with_reducible refine x_iEe ?_
  | with_reducible refine x_yes ?_
  | with_reducible refine x_for ?_
  | (with_reducible show wLot _ [D.int _] _); (refine' x_lot (by assumption) ?h1 ?h2 ?h3 ?_); (case h1 => omega); (case h2 => first | decide | omega); (case h3 => first | decide | omega)
  | (with_reducible show ∃ o, _ = some (some (Sl.own o)) ∧ _); refine x_exO rfl ?_
  | with_reducible refine x_exo ?_
  | with_reducible refine x_ret ?_
  | with_reducible refine x_set ?_
  | with_reducible refine x_fin ?_
  | with_reducible refine x_fino ?_
  | (with_reducible refine x_and (p := _ < List.length _) ?h ?_); (case h => exact Nat.le_of_ble_eq_true rfl); (try dsimp only [List.set_cons_succ, List.set_cons_zero])
  | with_reducible refine x_next ?_
  | with_reducible refine x_retN ?_
  | with_reducible refine x_drop ?_
  | with_reducible refine x_asg ?_
  | (with_reducible refine x_gtp ?h ?_); (case h => rfl)
  | with_reducible refine x_gcons ?_
  | with_reducible refine x_gnil ?_
  | (with_reducible refine x_gn ?h ?_); (case h => exact Nat.le_of_ble_eq_true rfl); (try dsimp only [List.set_cons_succ, List.set_cons_zero])
  | with_reducible refine x_ifS ?_
  | with_reducible refine x_if ?_
  | with_reducible refine x_itT ?_
  | with_reducible refine x_itF ?_
  | with_reducible refine x_iteN ?_
  | with_reducible refine x_tru ?_
  | with_reducible refine x_tB ?_
  | with_reducible refine x_dtB ?_
  | with_reducible refine x_dtN ?_
  | with_reducible refine x_exb ?_
  | with_reducible refine x_exdb ?_
  | with_reducible refine x_tand ?_
  | with_reducible refine x_tor ?_
  | with_reducible refine x_tnot ?_
  | with_reducible refine x_and2 ?_
  | with_reducible refine x_or2 ?_
  | with_reducible refine x_not2 ?_
  | with_reducible refine x_chain ?_
  | with_reducible refine x_sub ?_
  | with_reducible refine x_addI ?_
  | (with_reducible refine x_addS ?h ?_); (case h => walk_at "sz")
  | (with_reducible refine x_addL ?h ?_); (case h => walk_at "sz")
  | (with_reducible refine x_addT ?h ?_); (case h => walk_at "sz")
  | with_reducible refine x_lt ?_
  | with_reducible refine x_le ?_
  | with_reducible refine x_gt ?_
  | with_reducible refine x_ge ?_
  | with_reducible refine x_ltS ?_
  | with_reducible refine x_eqI ?_
  | with_reducible refine x_neI ?_
  | with_reducible refine x_allSg ?_
  | with_reducible refine x_m0 ?_
  | with_reducible refine x_lstT ?_
  | with_reducible refine x_lstL ?_
  | with_reducible refine x_strB ?_
  | with_reducible refine x_strN ?_
  | with_reducible refine x_strS ?_
  | with_reducible refine x_isT ?_
  | with_reducible refine x_isI ?_
  | with_reducible refine x_neg ?_
  | with_reducible refine x_un ?_
  | (with_reducible refine x_pow ?h ?_); (case h => exact ⟨by decide, by decide +kernel⟩)
  | (with_reducible refine x_mod ?h ?_); (case h => first | decide | omega)
  | (with_reducible refine x_mul ?h ?_); (case h => exact mul_ok (by first | decide | omega) (by first | decide | omega))
  | (with_reducible refine x_div ?h ?_); (case h => exact div_ok (by first | decide | omega) (by first | decide | omega))
  | with_reducible refine x_ipA ?_
  | (with_reducible show wAugL _ _ _ _ _ _); refine x_augL rfl ?_
  | (with_reducible show wAug _ _ _ _ _); refine x_aug rfl ?_
  | (with_reducible show ∃ k' ds d, Sl.f (D.int _) = Sl.f (D.int k') ∧ _); refine x_augL1 rfl (by decide) rfl ?_
  | (with_reducible show ∃ k' j ds, Sl.f (D.int _) = Sl.f (D.int k') ∧ _ = some (some (Sl.own (O.lst ds))) ∧ ixN _ k' = some j ∧ _); refine x_setL1 rfl rfl ?_; (try dsimp only [List.set_cons_succ, List.set_cons_zero])
  | (with_reducible show ∃ ds j, _ = some (some (Sl.own (O.lst ds))) ∧ ixN _ _ = some j ∧ _); refine x_augL2 rfl rfl ?_; (try dsimp only [List.set_cons_succ, List.set_cons_zero])
  | (with_reducible show gSetL _ _ _ _ _); refine x_setL rfl ?_
  | (with_reducible show dIx (D.lst _) (D.int _) _); refine x_ixL rfl ?_
  | (with_reducible show dIx (D.tup _) (D.int _) _); refine x_ixT rfl ?_
  | with_reducible refine x_cb ?_
  | (with_reducible show wCB1 _ _ _ _); refine x_cb1 rfl rfl ?_
  | with_reducible refine x_fm ?_
  | with_reducible refine x_exl ?_
  | with_reducible refine x_ext ?_
  | with_reducible refine x_exs ?_
  | with_reducible refine x_exi ?_
  | with_reducible refine x_sl ?_
  | with_reducible refine x_slN ?_
  | with_reducible refine x_slS ?_
  | with_reducible refine x_frz ?_
  | with_reducible refine x_frL ?_
  | with_reducible refine x_revT ?_
  | with_reducible refine x_revL ?_
  | with_reducible refine x_splitO ?_
  | (with_reducible show wSlO _ _ _ _ _); refine x_slO rfl ?_
  | (with_reducible show ∃ ds2, _ = some (some (Sl.own (O.lst ds2))) ∧ _); refine x_exOl rfl ?_
  | with_reducible refine x_dictO ?_
  | with_reducible refine x_psC ?_
  | with_reducible refine x_psN ?_
  | with_reducible refine x_get ?_
  | (with_reducible show gSetSl _ _ _ _ _ _); refine x_setSl rfl ?_
  | with_reducible refine x_split ?_
  | with_reducible refine x_isN1 ?_
  | with_reducible refine x_isN0 rfl ?_
  | with_reducible refine x_iZ ?_
  | with_reducible refine x_zT ?_
  | with_reducible refine x_zL ?_
  | with_reducible refine x_stp ?_
  | with_reducible refine x_js ?_
  | with_reducible refine x_jsC ?_
  | with_reducible refine x_jsN ?_
  | with_reducible refine x_fmt ?_
  | with_reducible refine x_callFX ?_
  | (with_reducible refine x_glp ?h ?_); (case h => rfl)
  | with_reducible refine x_raiseR ?_
  | with_reducible refine x_row ?_
  | with_reducible refine x_lenL ?_
  | with_reducible refine x_lenT ?_
  | with_reducible refine x_lenD ?_
  | (with_reducible refine x_lenS ?h ?_); (case h => walk_at "sz")
  | with_reducible refine x_max ?_
  | with_reducible refine x_min ?_
  | with_reducible refine x_intI ?_
  | with_reducible refine x_intB ?_
  | (with_reducible refine x_isInt ?h ?_); (case h => first | assumption | exact part_ty (by assumption) | (intro _ hh; cases hh; done))
  | (with_reducible refine x_isBl ?h ?_); (case h => first | assumption | exact part_ty (by assumption) | (intro _ hh; cases hh; done))
  | (with_reducible refine x_isStr ?h ?_); (case h => first | assumption | exact part_ty (by assumption) | (intro _ hh; cases hh; done))
  | (with_reducible refine x_isTup ?h ?_); (case h => first | assumption | exact part_ty (by assumption) | (intro _ hh; cases hh; done))
  | (with_reducible refine x_isLst ?h ?_); (case h => first | assumption | exact part_ty (by assumption) | (intro _ hh; cases hh; done))
  | (with_reducible refine x_isDic ?h ?_); (case h => first | assumption | exact part_ty (by assumption) | (intro _ hh; cases hh; done))
  | (with_reducible refine x_itTe ?e ?_); (case e => rfl)
  | (with_reducible refine x_itFe ?e ?_); (case e => rfl)
  | with_reducible refine x_dnewO ?_
  | with_reducible refine x_dput ?_
  | with_reducible refine x_dix ?_
  | with_reducible refine x_sortedD ?_
  | with_reducible refine x_star ?_
  | with_reducible refine x_starT ?_
  | with_reducible refine x_frzD ?_
  | with_reducible refine x_sw ?_
  | with_reducible refine x_cnt ?_
  | with_reducible refine x_waC ?_
  | with_reducible refine x_waN ?_
  | with_reducible refine x_lenDD ?_
  | with_reducible refine x_allX ?_
  | (with_reducible show wFz _ _ _ _); refine x_fz rfl ?_
  | (with_reducible show wFzS _ _ _ _); refine x_fzS rfl ?_
  | (with_reducible show wFzO _ _ _ _); refine x_fzO rfl ?_
  | (with_reducible show wiK _ _ _); refine x_iK rfl ?_
  | (with_reducible show wiIt _ _ _); refine x_iIt rfl ?_
  | with_reducible refine x_iE1 ?_
  | with_reducible refine x_forR ?_
  | (with_reducible show wDIxV _ _ _ _); refine x_dixV rfl (cd_dicO _) ?_
  | (with_reducible show wDPop _ _ _ _); refine x_dpop rfl ?_
  | with_reducible refine x_pickO ?_
  | (with_reducible show wExt _ _ _ _); refine x_extO rfl ?_
  | with_reducible refine x_sortedR ?_
  | with_reducible refine x_sortedL ?_
  | with_reducible refine x_ixSt ?_
  | (with_reducible show wiVal _ _ _); refine x_iVal rfl ?_
  | with_reducible refine x_dictP ?_
  | with_reducible refine x_dictZip ?_
  | with_reducible refine x_revS ?_
  | with_reducible refine x_par ?_
  | (with_reducible show wIsiV _ _ _ _ _); refine x_isiV rfl ?_
  | ((with_reducible show _ ∧ _); refine And.intro (Nat.le_of_ble_eq_true rfl) ?_))
local macro_rules | `(tactic| walk_at "x") => `(tactic| repeat (walk_at "x1"))

section
variable {P : Program} {w : World} {K : PySem.W.Frag} {mg : Str → Option Value} {base : Heap} {tabs : List Addr}
/-! ### the program: going on -/
theorem dicO_snoc (cs : Case) (a g : Str) : O.dic ((cP cs).map (·.1) ++ [.inr a]) ((((cP cs).map fun p : Key × D => p.2) ++ [D.str g]).map O.f) = dicO (cP (cs ++ [(a, g)])) := by
  unfold cP dicO
  rw [List.map_append, List.map_append, List.map_append, List.map_append]
  simp only [List.map_map]
  rfl
theorem zip_at {ys : List Str} {rs : List (Str × D)} {i : Nat} {d : D} (hd : (List.zipWith (fun a b => D.tup [a, b]) (ys.map D.str) (rs.map rwD))[i]? = some d) : ∃ y r, ys[i]? = some y ∧ rs[i]? = some r ∧ d = .tup [.str y, .tup [.str r.1, r.2]] := by
  rw [List.getElem?_zipWith, List.getElem?_map, List.getElem?_map] at hd
  cases hy : ys[i]? with
  | none => rw [hy] at hd; cases hd
  | some y =>
    cases hr : rs[i]? with
    | none => rw [hy, hr] at hd; cases hd
    | some r =>
      rw [hy, hr] at hd
      exact ⟨y, r, rfl, rfl, (Option.some.inj hd).symm⟩
theorem zip_at2 {ys : List Str} {l : List D} {i : Nat} {d : D} (hd : (List.zipWith (fun a b => D.tup [a, b]) (ys.map D.str) l)[i]? = some d) : ∃ y t, ys[i]? = some y ∧ l[i]? = some t ∧ d = .tup [.str y, t] := by
  rw [List.getElem?_zipWith, List.getElem?_map] at hd
  cases hy : ys[i]? with
  | none => rw [hy] at hd; cases hd
  | some y =>
    cases hr : l[i]? with
    | none => rw [hy, hr] at hd; cases hd
    | some t =>
      rw [hy, hr] at hd
      exact ⟨y, t, rfl, rfl, (Option.some.inj hd).symm⟩
theorem ok_goes {n k : Nat} (hk : 4 ≤ k) (T : Txt K mg) (c__holds : Cal P w K mg base k "_holds" (spW K tabs (liftF (wHE n)))) (c_next_actor : Cal P w K mg base 1 "next_actor" (spW K tabs (liftF wNextA))) (c_givers_to : Cal P w K mg base 1 "givers_to" (spW K tabs (liftF wGivers)))
    (A : At K mg "_goes_on" s__goes_on ["trust", "most", "settled", "tree"]) : Cal P w K mg base (k + 1) "_goes_on" (spW K tabs (liftF (wGoesA n))) := by
  refine A.of fun f fd F => fx_fnF F sc__goes_on (fun ds Q h => len__goes h) fun cdv A outer s H E TT P0 σ0 hcd hr => ⟨_, (gss_cons (gs_asg (GE.of_pure (gp_var (pv 3))) (gg_tup (n := 3) rfl (ggs_cons (pg_name (i := 4) sc__goes_on.nd rfl (Or.inl rfl)) rfl (ggs_cons (pg_name (i := 5) sc__goes_on.nd rfl (Or.inl rfl)) rfl (ggs_cons (pg_name (i := 6) sc__goes_on.nd rfl (Or.inl rfl)) rfl ggs_nil)))))
      (gss_cons (gs_if (GW.gt (gw_or (gt_cmpP (opx_ne hr.units) (gp_var (pv 4)) gp_str (nomark _)) (gw_or (gt_cmp (opx_ne hr.units) (GE.of_pure (gp_var (pv 5))) (ge_callF c_next_actor hr (by first | decide | omega) rfl rfl rfl mono_next_actor (gd_cons (GE.of_pure (gp_var (pv 0))) (gd_cons (GE.of_pure (gp_var (pv 2))) gd_nil))) (nomark _)) (gw_or1 (gt_not (gt_tru (ge_cbB cax_isi (by rfl) T.z_isinstance (by decide +kernel) (gd_cons (GE.of_pure (gp_var (pv 6))) (gd_cons (GE.of_pure (gp_ty (n := "tuple") (by rfl) T.z_tuple (by decide +kernel))) gd_nil)))))))))
      (gss_one (gs_ret (GE.of_pure gp_bl)))
      gss_nil)
      (gss_cons (gs_setE (i := 7) sc__goes_on.nd rfl (Or.inl rfl) (ge_callF c_givers_to hr (by first | decide | omega) rfl rfl rfl mono_givers_to (gd_cons (GE.of_pure (gp_var (pv 0))) (gd_cons (GE.of_pure (gp_var (pv 5))) gd_nil))))
      (gss_cons (gs_if (gt_cmp (opx_ne hr.units) (ge_cbB1 cax_len (by rfl) T.z_len (by decide +kernel) (pv 6)) (ge_cbB1 cax_len (by rfl) T.z_len (by decide +kernel) (pv 7)) (nomark _))
      (gss_one (gs_ret (GE.of_pure gp_bl)))
      gss_nil)
      (gss_cons (gs_for PassesOwn.never rfl (gi_zipM rfl T.z_zip (GD.ga (gd_cons (GE.of_pure (gp_var (pv 7))) (gd_cons (GE.of_pure (gp_var (pv 6))) gd_nil)))) (gg_tup (n := 2) rfl (ggs_cons (pg_name (i := 8) sc__goes_on.nd rfl (Or.inl rfl)) rfl (ggs_cons (pg_name (i := 9) sc__goes_on.nd rfl (Or.inl rfl)) rfl ggs_nil)))
      (gss_cons (gs_if (GW.gt (gw_or (gt_not (gt_tru (ge_cbB cax_isi (by rfl) T.z_isinstance (by decide +kernel) (gd_cons (GE.of_pure (gp_var (pv 9))) (gd_cons (GE.of_pure (gp_ty (n := "tuple") (by rfl) T.z_tuple (by decide +kernel))) gd_nil))))) (gw_or1 (gt_cmp (opx_ne hr.units) (ge_cbB1 cax_len (by rfl) T.z_len (by decide +kernel) (pv 9)) (GE.of_pure gp_int) (nomark _)))))
      (gss_one (gs_ret (GE.of_pure gp_bl)))
      gss_nil)
      (gss_cons (gs_if (GW.gt (gw_or (gt_not (gt_tru (ge_cbB cax_isi (by rfl) T.z_isinstance (by decide +kernel) (gd_cons (GE.of_pure (gp_ix ixx (gp_var (pv 9)) gp_int (fun _ _ => rfl))) (gd_cons (GE.of_pure (gp_ty (n := "str") (by rfl) T.z_str (by decide +kernel))) gd_nil))))) (gw_or1 (gt_cmpP (opx_ne hr.units) (gp_ix ixx (gp_var (pv 9)) gp_int (fun _ _ => rfl)) (gp_var (pv 8)) (nomark _)))))
      (gss_one (gs_ret (GE.of_pure gp_bl)))
      gss_nil)
      (gss_one (gs_if (gt_not (gt_tru (ge_callF c__holds hr (by first | decide | omega) rfl rfl rfl mono__holds (gd_cons (GE.of_pure (gp_var (pv 0))) (gd_cons (GE.of_pure (gp_var (pv 1))) (gd_cons (ge_frz (ge_star (GE.of_pure (gp_var (pv 2))) (GE.of_pure (gp_var (pv 5))) (GE.of_pure (gp_var (pv 8))))) (gd_cons (GE.of_pure (gp_ix ixx (gp_var (pv 9)) gp_int (fun _ _ => rfl))) gd_nil)))))))
      (gss_one (gs_ret (GE.of_pure gp_bl)))
      gss_nil)))))
      (gss_one (gs_ret (GE.of_pure gp_bl)))))))), fun ds Q h0 => ?_⟩
  rcases h0 with ⟨oo, ns, ts, xs, most, cs, d, e, wd, ci, gv, q⟩ | ⟨oo, ns, ts, xs, cs, w, y, t, e, wd, ci, bg, q⟩
  · subst e
    obtain ⟨n, rfl, a, rs, rfl, ha, rl, hrs⟩ : ∃ n', n = n' + 1 ∧ ∃ (a : Str) (rs : List (Str × D)), d = .tup [.str "giver", .str a, .tup (rs.map rwD)] ∧ PyData.strOk a = true ∧ rs.length ≤ 20 ∧ ∀ r ∈ rs, PyData.strOk r.1 = true ∧ IsTr 20 n' r.2 := by
      cases n with
      | zero => exact gv.elim
      | succ n => exact ⟨n, rfl, gv⟩
    have tl := wd.tr.tl
    rw [holds_giver] at q
    refine x_start (e := [some (.f (.tup [.str oo, .tup (ts.map Ti.d), .tup (xs.map Wi.d)])), some (.f (mostD most)), some (.f (cD cs)), some (.f (.tup [.str "giver", .str a, .tup (rs.map rwD)])), none, none, none, none, none, none]) rfl ?_
    walk_at "x"
    refine x_neD (by decide +kernel) (by decide +kernel) ?_
    rw [show eqB (.str "giver") (.str "giver") = true by decide +kernel]
    walk_at "x"
    refine ⟨oo, ts, xs, cs, rfl, wd.tr, ci.ok, ?_⟩
    cases hn : nextV oo xs cs with
    | none =>
      rw [hn] at q
      dsimp only [strO]
      walk_at "x"
      refine x_neD (okPy_str ha) (by decide +kernel) ?_
      rw [show eqB (.str a) .non = false from rfl]
      walk_at "x"
      exact q
    | some y =>
      have yn := next_name wd.tr ci.ok hn
      rw [hn] at q
      dsimp only [strO]
      walk_at "x"
      refine x_neD (okPy_str ha) (okPy_str (name_cp yn)) ?_
      rw [eq_strs]
      cases hc : a == y with
      | false =>
        have ne : (some y == some a) = false := by
          rw [beq_eq_false_iff_ne]
          intro e
          cases e
          rw [beq_self_eq_true] at hc
          cases hc
        rw [ne, Bool.false_and] at q
        walk_at "x"
        exact q
      | true =>
        obtain rfl := eq_of_beq hc
        rw [beq_self_eq_true, Bool.true_and] at q
        walk_at "x"
        refine ⟨oo, ts, xs, a, rfl, wd.tr, ha, fun ys hy => ?_⟩
        rw [tiedB_eq hy] at q
        have yl := tied_len hy
        walk_at "x"
        refine x_ite (fun hl => ?_) (fun hl => ?_)
        rotate_left
        · have nl : ((rs.map (·.1)) == ys) = false := by
            rw [beq_eq_false_iff_ne]
            intro e
            have hl := of_decide_eq_false hl
            rw [← e, List.length_map, List.length_map, List.length_map] at hl
            exact hl rfl
          rw [nl, Bool.false_and] at q
          walk_at "x"
          exact q
        · have hl : rs.length = ys.length := by
            have := of_decide_eq_true hl
            rw [List.length_map, List.length_map] at this
            omega
          walk_at "x"
          refine ⟨_, _, rfl, fun i e => (∀ j r, j < i → rs[j]? = some r → ys[j]? = some r.1 ∧ holdsV oo ts xs most n (cs ++ [(a, r.1)]) r.2 = true) ∧ ∃ x8 x9, e = [some (.f (.tup [.str oo, .tup (ts.map Ti.d), .tup (xs.map Wi.d)])), some (.f (mostD most)), some (.f (cD cs)), some (.f (.tup [.str "giver", .str a, .tup (rs.map rwD)])), some (.f (.str "giver")), some (.f (.str a)), some (.f (.tup (rs.map rwD))), some (.f (.lst (ys.map D.str))), x8, x9], ⟨fun j r h => absurd h (Nat.not_lt_zero _), _, _, rfl⟩, ?_, ?_⟩
          · rintro i d e hd ⟨hj, x8, x9, rfl⟩
            obtain ⟨y, r, hyi, hri, rfl⟩ := zip_at hd
            have rok := hrs r (List.mem_of_getElem? hri)
            have ym := List.mem_of_getElem? hyi
            have yt := (hy.mem y).mp ym
            have yok : PyData.strOk y = true := by
              obtain ⟨t, ht, _, e⟩ := yt
              rw [← e]
              exact name_cp (wd.tr.hts t ht).a
            have ci2 := csIn_snoc wd ci hn yt
            walk_at "x"
            refine x_neD (okPy_str rok.1) (okPy_str yok) ?_
            rw [eq_strs]
            cases hc2 : r.1 == y with
            | false =>
              have nl : ((rs.map (·.1)) == ys) = false := by
                rw [beq_eq_false_iff_ne]
                intro e
                rw [← e, List.getElem?_map, hri] at hyi
                have : r.1 = y := Option.some.inj hyi
                rw [this, beq_self_eq_true] at hc2
                cases hc2
              rw [nl, Bool.false_and] at q
              walk_at "x"
              exact q
            | true =>
              obtain rfl := eq_of_beq hc2
              walk_at "x"
              refine ⟨_, _, rfl, by rw [List.length_map]; unfold cP; rw [List.length_map]; have := ci.ok.len; omega, ?_⟩
              walk_at "x"
              refine ⟨.inr a, rfl, fun hm => ?_, ?_⟩
              · obtain ⟨p, hp, e⟩ := List.mem_map.mp hm
                obtain ⟨p', hp', rfl⟩ := List.mem_map.mp hp
                exact (next_new hn).2 (List.mem_map.mpr ⟨p', hp', Sum.inr.inj e⟩)
              walk_at "x"
              refine ⟨_, _, rfl, by rw [dicO_snoc]; exact cd_dicO (cP (cs ++ [(a, r.1)])), ?_⟩
              walk_at "x"
              refine .inl ⟨oo, ns, ts, xs, most, cs ++ [(a, r.1)], r.2, rfl, wd, ci2, rok.2, ?_⟩
              cases hv : holdsV oo ts xs most n (cs ++ [(a, r.1)]) r.2 with
              | false =>
                have al : (rs.all fun r => holdsV oo ts xs most n (cs ++ [(a, r.1)]) r.2) = false := by
                  rw [List.all_eq_false]
                  exact ⟨r, List.mem_of_getElem? hri, by rw [hv]; decide⟩
                rw [al, Bool.and_false] at q
                walk_at "x"
                exact q
              | true =>
                walk_at "x"
                exact ⟨fun j r' hj2 hr' => by
                  rcases Nat.lt_or_ge j i with h | h
                  · exact hj j r' h hr'
                  · rw [show j = i by omega] at hr' ⊢
                    rw [hri] at hr'
                    cases hr'
                    exact ⟨hyi, hv⟩, _, _, rfl⟩
          · rintro e ⟨hj, x8, x9, rfl⟩
            have zl : (List.zipWith (fun a b => D.tup [a, b]) (ys.map D.str) (rs.map rwD)).length = rs.length := by
              rw [List.length_zipWith, List.length_map, List.length_map, hl, Nat.min_self]
            rw [zl] at hj
            have nm : ((rs.map (·.1)) == ys) = true := by
              rw [beq_iff_eq]
              refine List.ext_getElem? fun j => ?_
              rw [List.getElem?_map]
              cases hr : rs[j]? with
              | none =>
                have : rs.length ≤ j := List.getElem?_eq_none_iff.mp hr
                rw [List.getElem?_eq_none (by omega)]
                rfl
              | some r =>
                have : j < rs.length := (List.getElem?_eq_some_iff.mp hr).1
                rw [(hj j r this hr).1]
                rfl
            have al : (rs.all fun r => holdsV oo ts xs most n (cs ++ [(a, r.1)]) r.2) = true := by
              rw [List.all_eq_true]
              intro r hr
              obtain ⟨j, hj2, e⟩ := List.getElem_of_mem hr
              exact (hj j r hj2 (by rw [List.getElem?_eq_getElem hj2, e])).2
            rw [nm, al] at q
            walk_at "x"
            exact q
  · subst e
    have tl := wd.tr.tl
    refine x_start (e := [some (.f (.tup [.str oo, .tup (ts.map Ti.d), .tup (xs.map Wi.d)])), some (.f .non), some (.f (cD cs)), some (.f (.tup [.str w, .str y, t])), none, none, none, none, none, none]) rfl ?_
    have wy : PyData.strOk w = true ∧ PyData.strOk y = true := by
      cases n with
      | zero => exact ⟨bg.hw, bg.hy⟩
      | succ n =>
        rcases bg with bg | ⟨rfl, l, _, bg⟩
        · exact ⟨bg.hw, bg.hy⟩
        · exact ⟨by decide +kernel, bg.hy⟩
    walk_at "x"
    refine x_neD (okPy_str wy.1) (by decide +kernel) ?_
    rw [eq_strs]
    by_cases hw : w = "giver"
    rotate_left
    · rw [beq_false_of_ne hw]
      walk_at "x"
      exact q
    subst hw
    rw [beq_self_eq_true]
    have nx : nextV oo xs cs = some y := by
      cases n with
      | zero => exact (bg.no.resolve_left (fun h => h rfl)).1
      | succ n =>
        rcases bg with bg | ⟨_, l, _, bg⟩
        · exact (bg.no.resolve_left (fun h => h rfl)).1
        · exact bg.nx
    walk_at "x"
    refine ⟨oo, ts, xs, cs, rfl, wd.tr, ci.ok, ?_⟩
    rw [nx]
    dsimp only [strO]
    walk_at "x"
    refine x_neD (okPy_str wy.2) (okPy_str wy.2) ?_
    rw [eq_strs, beq_self_eq_true]
    walk_at "x"
    have alt : (isTup t = false ∧ NoTy t) ∨ ∃ ys l, IsTied ts y ys ∧ t = .tup l ∧ (l.length ≠ ys.length ∨ (∃ b post, l = b :: post ∧ l.length = ys.length ∧ BadRow b) ∨ (l.length = ys.length ∧ ∃ n', n = n' + 1 ∧ BdR oo ts xs n' cs (Bd oo ts xs n') y l)) := by
      have go : BadGo oo ts xs cs "giver" y t → (isTup t = false ∧ NoTy t) ∨ ∃ ys l, IsTied ts y ys ∧ t = .tup l ∧ (l.length ≠ ys.length ∨ (∃ b post, l = b :: post ∧ l.length = ys.length ∧ BadRow b) ∨ (l.length = ys.length ∧ ∃ n', n = n' + 1 ∧ BdR oo ts xs n' cs (Bd oo ts xs n') y l)) := fun bg => by
        rcases (bg.no.resolve_left (fun h => h rfl)).2 with h | ⟨ys, l, h1, h2, h3⟩
        · exact .inl h
        · exact .inr ⟨ys, l, h1, h2, h3.imp id .inl⟩
      cases n with
      | zero => exact go bg
      | succ n =>
        rcases bg with bg | ⟨_, l, e, bg⟩
        · exact go bg
        · obtain ⟨ys, pre, g, t', post, el, ht, hl, _⟩ := bg.ex
          exact .inr ⟨ys, l, ht, e, .inr (.inr ⟨by rw [el, List.length_append, List.length_map, List.length_cons]; omega, n, rfl, bg⟩)⟩
    rcases alt with ⟨nt, ny⟩ | ⟨ys, l, hy, rfl, alt⟩
    · refine x_isTup ny ?_
      rw [nt]
      walk_at "x"
      exact q
    walk_at "x"
    refine ⟨oo, ts, xs, y, rfl, wd.tr, wy.2, fun ys' hy' => ?_⟩
    obtain rfl := tied_uniq hy hy'
    have yl := tied_len hy
    have yok : ∀ z ∈ ys, PyData.strOk z = true := fun z hz => by
      obtain ⟨t, ht, _, e⟩ := (hy.mem z).mp hz
      rw [← e]
      exact name_cp (wd.tr.hts t ht).a
    walk_at "x"
    rcases alt with hne | alt
    · rw [show decide (((l.length : Nat) : Int) = (((ys.map D.str).length : Nat) : Int)) = false from decide_eq_false (by rw [List.length_map]; omega)]
      walk_at "x"
      exact q
    have hl : l.length = ys.length := by
      rcases alt with ⟨_, _, _, h, _⟩ | ⟨h, _⟩ <;> exact h
    rw [show decide (((l.length : Nat) : Int) = (((ys.map D.str).length : Nat) : Int)) = true from decide_eq_true (by rw [List.length_map]; omega)]
    walk_at "x"
    have zl : (List.zipWith (fun a b => D.tup [a, b]) (ys.map D.str) l).length = l.length := by
      rw [List.length_zipWith, List.length_map, hl, Nat.min_self]
    rcases alt with ⟨b, post, rfl, _, br⟩ | ⟨_, n', rfl, bd⟩
    · refine ⟨_, _, rfl, fun i e => i = 0 ∧ ∃ x8 x9, e = [some (.f (.tup [.str oo, .tup (ts.map Ti.d), .tup (xs.map Wi.d)])), some (.f .non), some (.f (cD cs)), some (.f (.tup [.str "giver", .str y, .tup (b :: post)])), some (.f (.str "giver")), some (.f (.str y)), some (.f (.tup (b :: post))), some (.f (.lst (ys.map D.str))), x8, x9], ⟨rfl, _, _, rfl⟩, ?_, ?_⟩
      · rintro i d e hd ⟨rfl, x8, x9, rfl⟩
        obtain ⟨z, t, hz, ht, rfl⟩ := zip_at2 hd
        cases (show t = b from (Option.some.inj ht).symm)
        walk_at "x"
        rcases br with ⟨nb, tb⟩ | ⟨l', rfl, hl'⟩ | ⟨x, t', rfl, nx', sx⟩
        · refine x_isTup nb ?_
          rw [tb]
          walk_at "x"
          exact q
        · walk_at "x"
          rw [show decide (((l'.length : Nat) : Int) = 2) = false from decide_eq_false (by omega)]
          walk_at "x"
          exact q
        · walk_at "x"
          try refine x_isStr nx' ?_
          rw [sx]
          walk_at "x"
          exact q
      · rintro e ⟨h, x8, x9, rfl⟩
        rw [zl, List.length_cons] at h
        omega
    · obtain ⟨ys2, pre, g, t', post, rfl, ht, hl2, hnm, hpre, bdt⟩ := bd.ex
      obtain rfl := tied_uniq hy ht
      refine ⟨_, _, rfl, fun i e => i ≤ pre.length ∧ ∃ x8 x9, e = [some (.f (.tup [.str oo, .tup (ts.map Ti.d), .tup (xs.map Wi.d)])), some (.f .non), some (.f (cD cs)), some (.f (.tup [.str "giver", .str y, .tup (pre.map rwD ++ rwD (g, t') :: post)])), some (.f (.str "giver")), some (.f (.str y)), some (.f (.tup (pre.map rwD ++ rwD (g, t') :: post))), some (.f (.lst (ys.map D.str))), x8, x9], ⟨Nat.zero_le _, _, _, rfl⟩, ?_, ?_⟩
      · rintro i d e hd ⟨hi, x8, x9, rfl⟩
        obtain ⟨z, tt, hz, htt, rfl⟩ := zip_at2 hd
        have zt := (hy.mem z).mp (List.mem_of_getElem? hz)
        have zok := yok z (List.mem_of_getElem? hz)
        have ci2 := csIn_snoc wd ci nx zt
        have hzn : (pre.map (·.1) ++ [g])[i]? = some z := by
          rw [hnm, List.getElem?_take, if_pos (by omega)]
          exact hz
        obtain ⟨r, hr, er⟩ : ∃ r : Str × D, tt = rwD r ∧ r.1 = z ∧ ((i < pre.length ∧ r ∈ pre) ∨ (i = pre.length ∧ r = (g, t'))) := by
          rcases Nat.lt_or_ge i pre.length with h | h
          · rw [List.getElem?_append_left (by rw [List.length_map]; exact h), List.getElem?_map] at htt hzn
            rw [List.getElem?_eq_getElem h] at htt hzn
            exact ⟨pre[i], (Option.some.inj htt).symm, Option.some.inj hzn, .inl ⟨h, List.getElem_mem h⟩⟩
          · have e : i = pre.length := by omega
            subst e
            rw [List.getElem?_append_right (by rw [List.length_map]; exact Nat.le_refl _), List.length_map, Nat.sub_self] at htt hzn
            exact ⟨(g, t'), (Option.some.inj htt).symm, Option.some.inj hzn, .inr ⟨rfl, rfl⟩⟩
        obtain ⟨r1, r2⟩ := r
        obtain ⟨rfl, er⟩ := er
        subst hr
        rw [rw_parts]
        dsimp only at zok ci2 er ⊢
        walk_at "x"
        refine x_neD (okPy_str zok) (okPy_str zok) ?_
        rw [eq_strs, beq_self_eq_true]
        walk_at "x"
        refine ⟨_, _, rfl, by rw [List.length_map]; unfold cP; rw [List.length_map]; have := ci.ok.len; omega, ?_⟩
        walk_at "x"
        refine ⟨.inr y, rfl, fun hm => ?_, ?_⟩
        · obtain ⟨p, hp, e⟩ := List.mem_map.mp hm
          obtain ⟨p', hp', rfl⟩ := List.mem_map.mp hp
          exact (next_new nx).2 (List.mem_map.mpr ⟨p', hp', Sum.inr.inj e⟩)
        walk_at "x"
        refine ⟨_, _, rfl, by rw [dicO_snoc]; exact cd_dicO (cP (cs ++ [(y, r1)])), ?_⟩
        walk_at "x"
        rcases er with ⟨h, hm⟩ | ⟨h, e⟩
        · obtain ⟨h1, h2⟩ := hpre _ hm
          refine .inl ⟨oo, ns, ts, xs, none, cs ++ [(y, r1)], r2, rfl, wd, ci2, h1, ?_⟩
          rw [h2]
          walk_at "x"
          exact ⟨by omega, _, _, rfl⟩
        · cases e
          refine .inr ⟨oo, ns, ts, xs, cs ++ [(y, g)], t', rfl, wd, ci2, bdt, ?_⟩
          walk_at "x"
          exact q
      · rintro e ⟨h, x8, x9, rfl⟩
        rw [zl, List.length_append, List.length_map, List.length_cons] at h
        omega
theorem ok_holdsN (T : Txt K mg) (c__bars : Cal P w K mg base 3 "_bars" (spW K tabs (liftF wBarsA))) (c_next_actor : Cal P w K mg base 1 "next_actor" (spW K tabs (liftF wNextA))) (c_givers_to : Cal P w K mg base 1 "givers_to" (spW K tabs (liftF wGivers)))
    (A : At K mg "_holds" s__holds ["trust", "most", "settled", "tree"]) (A' : At K mg "_goes_on" s__goes_on ["trust", "most", "settled", "tree"]) : ∀ n, Cal P w K mg base (2 * n + 5) "_holds" (spW K tabs (liftF (wHE n)))
  | 0 => ok_holds0 4 A
  | n + 1 => ok_holds (k := 2 * n + 6) (by omega) T (ok_goes (k := 2 * n + 5) (by omega) T (ok_holdsN T c__bars c_next_actor c_givers_to A A' n) c_next_actor c_givers_to A') c__bars A
def wTreeH (n : Nat) : WFn := fun ds Q => ∃ (oo : Str) (ns : List Str) (ts : List Ti) (xs : List Wi) (most : Option Int) (d : D), ds = [trustD oo ts xs, mostD most, d] ∧ Wd oo ns ts xs ∧ ((IsTr 20 n d ∧ Q (.f (.bl (holdsV oo ts xs most n [] d)))) ∨ (most = none ∧ Bd oo ts xs n [] d ∧ Q (.f (.bl false))))
theorem mono_tree_holds {n : Nat} : MonoF (wTreeH n) := fun ds Q Q' i ⟨oo, ns, ts, xs, most, d, h1, h2, q⟩ => ⟨oo, ns, ts, xs, most, d, h1, h2, q.imp (fun ⟨a, b⟩ => ⟨a, i _ b⟩) fun ⟨a, b, c⟩ => ⟨a, b, i _ c⟩⟩
theorem ok_treeh {n k : Nat} (T : Txt K mg) (c__holds : Cal P w K mg base k "_holds" (spW K tabs (liftF (wHE (n + 1))))) (A : At K mg "tree_holds" s_tree_holds ["trust", "most", "tree"]) : Cal P w K mg base (k + 1) "tree_holds" (spW K tabs (liftF (wTreeH n))) := by
  refine A.of fun f fd F => fx_fnF F sc_tree_holds (fun ds Q ⟨_, _, _, _, _, _, h, _⟩ => by rw [h]; rfl) fun cdv A outer s H E TT P0 σ0 hcd hr => ⟨_, (gss_one (gs_ret (ge_callF c__holds hr (by first | decide | omega) rfl rfl rfl mono__holds (gd_cons (GE.of_pure (gp_var (pv 0))) (gd_cons (GE.of_pure (gp_var (pv 1))) (gd_cons ge_dnew (gd_cons (GE.of_pure (gp_var (pv 2))) gd_nil))))))), fun ds Q ⟨oo, ns, ts, xs, most, d, e, wd, alt⟩ => ?_⟩
  subst e
  refine x_start (e := [some (.f (.tup [.str oo, .tup (ts.map Ti.d), .tup (xs.map Wi.d)])), some (.f (mostD most)), some (.f d)]) rfl ?_
  walk_at "x"
  rcases alt with ⟨ht, q⟩ | ⟨rfl, bd, q⟩
  · refine .inl ⟨oo, ns, ts, xs, most, [], d, rfl, wd, csIn_nil oo ns, ht, ?_⟩
    walk_at "x"
    exact q
  · refine .inr ⟨oo, ns, ts, xs, [], d, rfl, wd, csIn_nil oo ns, bd, ?_⟩
    walk_at "x"
    exact q

end
end K80

namespace K80
open PySem PySem.Spec PyProof.Rows L2 Lk Evl Fx


local macro_rules | `(tactic| walk_at "sz") => `(tactic| first
  | exact Nat.le_of_ble_eq_true rfl
  | assumption
  | exact small_sz (Nat.le_of_ble_eq_true rfl)
  | (simp only [List.length_cons, List.length_nil, List.length_map, List.length_append]; first | omega | exact small_sz (by omega)))
local macro_rules | `(tactic| walk_at "x1") => `(tactic| first
  | with_reducible refine x_seq ?_
  | (with_reducible show wVar _ _ _); first | refine x_varF rfl ?_ | refine x_varO rfl ?_ | refine x_varV rfl ?_
  | with_reducible refine x_c ?_
  | with_reducible refine x_exf ?_
  | with_reducible refine x_excd ?_
  | (with_reducible show ∃ d1, Sl.cd (Sl.vw _) = some d1 ∧ _); refine x_excV rfl ?_
  | (with_reducible show ∃ d1, Sl.cd (Sl.own _) = some d1 ∧ _); refine x_excO rfl ?_
  | with_reducible refine x_binP ?_
  | with_reducible refine x_bin ?_
  | with_reducible refine x_adC ?_
  | with_reducible refine x_adN ?_
  | with_reducible refine x_lst ?_
  | with_reducible refine x_tup ?_
  | with_reducible refine x_lstO ?_
  | (with_reducible refine x_and (p := _ ≤ sizeLine) ?h ?_); (case h => walk_at "sz")
  | with_reducible refine x_callF ?_
  | with_reducible refine x_callL ?_
  | with_reducible refine x_listO ?_
  | with_reducible refine x_dstar ?_
  | with_reducible refine x_getN ?_
  | with_reducible refine x_ss ?_
  | with_reducible refine x_mulO ?_
  | with_reducible refine x_iZM ?_
  | (with_reducible show wCallU _ _ _ _ _); refine x_callU rfl ?_
  | with_reducible refine x_callV ?_
  | with_reducible refine x_join ?_
  | with_reducible refine x_waD ?_
  | with_reducible refine x_lc ?_
  | with_reducible refine x_lc2 ?_
  | with_reducible refine x_lenSets ?_
  | (with_reducible show wApp _ _ _ _); refine x_app rfl ?_
  | (with_reducible show wBinV _ _ _ _ _); refine x_binV rfl ?_
  | (with_reducible show wPopD _ _ _ _); refine x_popD rfl ?_
  | (with_reducible show wCatV _ _ _ _); refine x_catV rfl ?_
  | with_reducible refine x_slN2 ?_
  | with_reducible refine x_sortedSets ?_
  | with_reducible refine x_tplL ?_
  | with_reducible refine x_tplT ?_
  | with_reducible refine x_isB ?_
  | with_reducible refine x_r1 ?_
  | with_reducible refine x_r2 ?_
  | (with_reducible refine x_r1e ?h0 ?h1 ?_); (case h0 => omega); (case h1 => omega)
  | with_reducible refine x_iL ?_
  | with_reducible refine x_iT ?_
  | with_reducible refine x_iS ?_
  | with_reducible refine x_iE ?_
  | with_reducible refine x_iEe ?_
  | with_reducible refine x_yes ?_
  | with_reducible refine x_for ?_
  | (with_reducible show wLot _ [D.int _] _); (refine' x_lot (by assumption) ?h1 ?h2 ?h3 ?_); (case h1 => omega); (case h2 => first | decide | omega); (case h3 => first | decide | omega)
  | (with_reducible show ∃ o, _ = some (some (Sl.own o)) ∧ _); refine x_exO rfl ?_
  | with_reducible refine x_exo ?_
  | with_reducible refine x_ret ?_
  | with_reducible refine x_set ?_
  | with_reducible refine x_fin ?_
  | with_reducible refine x_fino ?_
  | (with_reducible refine x_and (p := _ < List.length _) ?h ?_); (case h => exact Nat.le_of_ble_eq_true rfl); (try dsimp only [List.set_cons_succ, List.set_cons_zero])
  | with_reducible refine x_next ?_
  | with_reducible refine x_retN ?_
  | with_reducible refine x_drop ?_
  | with_reducible refine x_asg ?_
  | (with_reducible refine x_gtp ?h ?_); (case h => rfl)
  | with_reducible refine x_gcons ?_
  | with_reducible refine x_gnil ?_
  | (with_reducible refine x_gn ?h ?_); (case h => exact Nat.le_of_ble_eq_true rfl); (try dsimp only [List.set_cons_succ, List.set_cons_zero])
  | with_reducible refine x_ifS ?_
  | with_reducible refine x_if ?_
  | with_reducible refine x_itT ?_
  | with_reducible refine x_itF ?_
  | with_reducible refine x_iteN ?_
  | with_reducible refine x_tru ?_
  | with_reducible refine x_tB ?_
  | with_reducible refine x_dtB ?_
  | with_reducible refine x_dtN ?_
  | with_reducible refine x_exb ?_
  | with_reducible refine x_exdb ?_
  | with_reducible refine x_tand ?_
  | with_reducible refine x_tor ?_
  | with_reducible refine x_tnot ?_
  | with_reducible refine x_and2 ?_
  | with_reducible refine x_or2 ?_
  | with_reducible refine x_not2 ?_
  | with_reducible refine x_chain ?_
  | with_reducible refine x_sub ?_
  | with_reducible refine x_addI ?_
  | (with_reducible refine x_addS ?h ?_); (case h => walk_at "sz")
  | (with_reducible refine x_addL ?h ?_); (case h => walk_at "sz")
  | (with_reducible refine x_addT ?h ?_); (case h => walk_at "sz")
  | with_reducible refine x_lt ?_
  | with_reducible refine x_le ?_
  | with_reducible refine x_gt ?_
  | with_reducible refine x_ge ?_
  | with_reducible refine x_ltS ?_
  | with_reducible refine x_eqI ?_
  | with_reducible refine x_neI ?_
  | with_reducible refine x_allSg ?_
  | with_reducible refine x_m0 ?_
  | with_reducible refine x_lstT ?_
  | with_reducible refine x_lstL ?_
  | with_reducible refine x_strB ?_
  | with_reducible refine x_strN ?_
  | with_reducible refine x_strS ?_
  | with_reducible refine x_isT ?_
  | with_reducible refine x_isI ?_
  | with_reducible refine x_neg ?_
  | with_reducible refine x_un ?_
  | (with_reducible refine x_pow ?h ?_); (case h => exact ⟨by decide, by decide +kernel⟩)
  | (with_reducible refine x_mod ?h ?_); (case h => first | decide | omega)
  | (with_reducible refine x_mul ?h ?_); (case h => exact mul_ok (by first | decide | omega) (by first | decide | omega))
  | (with_reducible refine x_div ?h ?_); (case h => exact div_ok (by first | decide | omega) (by first | decide | omega))
  | with_reducible refine x_ipA ?_
  | (with_reducible show wAugL _ _ _ _ _ _); refine x_augL rfl ?_
  | (with_reducible show wAug _ _ _ _ _); refine x_aug rfl ?_
  | (with_reducible show ∃ k' ds d, Sl.f (D.int _) = Sl.f (D.int k') ∧ _); refine x_augL1 rfl (by decide) rfl ?_
  | (with_reducible show ∃ k' j ds, Sl.f (D.int _) = Sl.f (D.int k') ∧ _ = some (some (Sl.own (O.lst ds))) ∧ ixN _ k' = some j ∧ _); refine x_setL1 rfl rfl ?_; (try dsimp only [List.set_cons_succ, List.set_cons_zero])
  | (with_reducible show ∃ ds j, _ = some (some (Sl.own (O.lst ds))) ∧ ixN _ _ = some j ∧ _); refine x_augL2 rfl rfl ?_; (try dsimp only [List.set_cons_succ, List.set_cons_zero])
  | (with_reducible show gSetL _ _ _ _ _); refine x_setL rfl ?_
  | (with_reducible show dIx (D.lst _) (D.int _) _); refine x_ixL rfl ?_
  | (with_reducible show dIx (D.tup _) (D.int _) _); refine x_ixT rfl ?_
  | with_reducible refine x_cb ?_
  | (with_reducible show wCB1 _ _ _ _); refine x_cb1 rfl rfl ?_
  | with_reducible refine x_fm ?_
  | with_reducible refine x_exl ?_
  | with_reducible refine x_ext ?_
  | with_reducible refine x_exs ?_
  | with_reducible refine x_exi ?_
  | with_reducible refine x_sl ?_
  | with_reducible refine x_slN ?_
  | with_reducible refine x_slS ?_
  | with_reducible refine x_frz ?_
  | with_reducible refine x_frL ?_
  | with_reducible refine x_revT ?_
  | with_reducible refine x_revL ?_
  | with_reducible refine x_splitO ?_
  | (with_reducible show wSlO _ _ _ _ _); refine x_slO rfl ?_
  | (with_reducible show ∃ ds2, _ = some (some (Sl.own (O.lst ds2))) ∧ _); refine x_exOl rfl ?_
  | with_reducible refine x_dictO ?_
  | with_reducible refine x_psC ?_
  | with_reducible refine x_psN ?_
  | with_reducible refine x_get ?_
  | (with_reducible show gSetSl _ _ _ _ _ _); refine x_setSl rfl ?_
  | with_reducible refine x_split ?_
  | with_reducible refine x_isN1 ?_
  | with_reducible refine x_isN0 rfl ?_
  | with_reducible refine x_iZ ?_
  | with_reducible refine x_zT ?_
  | with_reducible refine x_zL ?_
  | with_reducible refine x_stp ?_
  | with_reducible refine x_js ?_
  | with_reducible refine x_jsC ?_
  | with_reducible refine x_jsN ?_
  | with_reducible refine x_fmt ?_
  | with_reducible refine x_callFX ?_
  | (with_reducible refine x_glp ?h ?_); (case h => rfl)
  | with_reducible refine x_raiseR ?_
  | with_reducible refine x_row ?_
  | with_reducible refine x_lenL ?_
  | with_reducible refine x_lenT ?_
  | with_reducible refine x_lenD ?_
  | (with_reducible refine x_lenS ?h ?_); (case h => walk_at "sz")
  | with_reducible refine x_max ?_
  | with_reducible refine x_min ?_
  | with_reducible refine x_intI ?_
  | with_reducible refine x_intB ?_
  | (with_reducible refine x_isInt ?h ?_); (case h => first | assumption | exact part_ty (by assumption) | (intro _ hh; cases hh; done))
  | (with_reducible refine x_isBl ?h ?_); (case h => first | assumption | exact part_ty (by assumption) | (intro _ hh; cases hh; done))
  | (with_reducible refine x_isStr ?h ?_); (case h => first | assumption | exact part_ty (by assumption) | (intro _ hh; cases hh; done))
  | (with_reducible refine x_isTup ?h ?_); (case h => first | assumption | exact part_ty (by assumption) | (intro _ hh; cases hh; done))
  | (with_reducible refine x_isLst ?h ?_); (case h => first | assumption | exact part_ty (by assumption) | (intro _ hh; cases hh; done))
  | (with_reducible refine x_isDic ?h ?_); (case h => first | assumption | exact part_ty (by assumption) | (intro _ hh; cases hh; done))
  | (with_reducible refine x_itTe ?e ?_); (case e => rfl)
  | (with_reducible refine x_itFe ?e ?_); (case e => rfl)
  | with_reducible refine x_dnewO ?_
  | with_reducible refine x_dput ?_
  | with_reducible refine x_dix ?_
  | with_reducible refine x_sortedD ?_
  | with_reducible refine x_star ?_
  | with_reducible refine x_starT ?_
  | with_reducible refine x_frzD ?_
  | with_reducible refine x_sw ?_
  | with_reducible refine x_cnt ?_
  | with_reducible refine x_waC ?_
  | with_reducible refine x_waN ?_
  | with_reducible refine x_lenDD ?_
  | with_reducible refine x_allX ?_
  | (with_reducible show wFz _ _ _ _); refine x_fz rfl ?_
  | (with_reducible show wFzS _ _ _ _); refine x_fzS rfl ?_
  | (with_reducible show wFzO _ _ _ _); refine x_fzO rfl ?_
  | (with_reducible show wiK _ _ _); refine x_iK rfl ?_
  | (with_reducible show wiIt _ _ _); refine x_iIt rfl ?_
  | with_reducible refine x_iE1 ?_
  | with_reducible refine x_forR ?_
  | (with_reducible show wDIxV _ _ _ _); refine x_dixV rfl (cd_dicO _) ?_
  | (with_reducible show wDPop _ _ _ _); refine x_dpop rfl ?_
  | with_reducible refine x_pickO ?_
  | (with_reducible show wExt _ _ _ _); refine x_extO rfl ?_
  | with_reducible refine x_sortedR ?_
  | with_reducible refine x_sortedL ?_
  | with_reducible refine x_ixSt ?_
  | (with_reducible show wiVal _ _ _); refine x_iVal rfl ?_
  | with_reducible refine x_dictP ?_
  | with_reducible refine x_dictZip ?_
  | with_reducible refine x_revS ?_
  | with_reducible refine x_par ?_
  | (with_reducible show wIsiV _ _ _ _ _); refine x_isiV rfl ?_
  | ((with_reducible show _ ∧ _); refine And.intro (Nat.le_of_ble_eq_true rfl) ?_))
local macro_rules | `(tactic| walk_at "x") => `(tactic| repeat (walk_at "x1"))

section
variable {P : Program} {w : World} {K : PySem.W.Frag} {mg : Str → Option Value} {base : Heap} {tabs : List Addr}
/-! ### trusts of any content, in shape -/
def TxOk (a : Str) : Prop := PyData.strOk a = true ∧ a.length ≤ 100
def LTie (t : D) : Prop := ∃ (a b : Str) (s u : Int), t = .tup [.str a, .str b, .int s, .int u] ∧ TxOk a ∧ TxOk b
def LWish (t : D) : Prop := ∃ (a : Str) (ds : List Str) (s u : Int), t = .tup [.str a, .tup (ds.map D.str), .int s, .int u] ∧ TxOk a ∧ ds.length ≤ 3 ∧ ∀ x ∈ ds, TxOk x
structure OkT (o : Str) (ts ws : List D) : Prop where
  ho : TxOk o
  ht : ∀ t ∈ ts, LTie t
  hw : ∀ t ∈ ws, LWish t
  tl : ts.length ≤ 21
  wl : ws.length ≤ 8
def nm1 : D → Str
  | .tup (_ :: .str b :: _) => b
  | _ => Str.empty
/-- all names but the owner's, as the law reads them -/
def oths (o : Str) (ts ws : List D) : List Str := (ws.map nm0 ++ ts.map nm0 ++ ts.map nm1).filter (· != o)
theorem nodup_len {ys xs : List Str} (nd : ys.Nodup) (h : ∀ y, y ∈ ys ↔ y ∈ xs) : ys.length = dst xs :=
  Nat.le_antisymm (nodup_le nd fun y hy => SO.met_iff.mpr ((h y).mp hy)) (nodup_le (met_nodup _) fun y hy => (h y).mpr (SO.met_iff.mp hy))
def wOthers : WFn := fun ds Q => ∃ (o : Str) (ts ws : List D), ds = [.tup [.str o, .tup ts, .tup ws]] ∧ OkT o ts ws ∧ ∀ ys : List Str, ys.length = dst (oths o ts ws) → (∀ y ∈ ys, TxOk y) → (∀ y, y ∈ ys ↔ y ∈ oths o ts ws) → Q (.f (.lst (ys.map D.str)))
theorem mono__law_others : MonoF wOthers := fun ds Q Q' i ⟨o, ts, ws, h1, h2, q⟩ => ⟨o, ts, ws, h1, h2, fun ys a b c => i _ (q ys a b c)⟩
theorem oths_ok {o : Str} {ts ws : List D} (h : OkT o ts ws) : ∀ y ∈ ws.map nm0 ++ ts.map nm0 ++ ts.map nm1, TxOk y := fun y hy => by
  rcases List.mem_append.mp hy with hy | hy
  · rcases List.mem_append.mp hy with hy | hy
    · obtain ⟨t, ht, rfl⟩ := List.mem_map.mp hy
      obtain ⟨a, ds, s, u, rfl, h1, _⟩ := h.hw t ht
      exact h1
    · obtain ⟨t, ht, rfl⟩ := List.mem_map.mp hy
      obtain ⟨a, b, s, u, rfl, h1, _⟩ := h.ht t ht
      exact h1
  · obtain ⟨t, ht, rfl⟩ := List.mem_map.mp hy
    obtain ⟨a, b, s, u, rfl, _, h1⟩ := h.ht t ht
    exact h1
theorem ok_others (T : Txt K mg) (A : At K mg "_law_others" s__law_others ["trust"]) : Cal P w K mg base 1 "_law_others" (spW K tabs (liftF wOthers)) := by
  refine A.of fun f fd F => fx_fnF F sc__law_others (fun ds Q ⟨o, ts, ws, h, _⟩ => by rw [h]; rfl) fun cdv A outer s H E TT P0 σ0 hcd hr => ⟨_, (gss_cons (gs_setE (i := 1) sc__law_others.nd rfl (Or.inl rfl) (ge_op opx_add (ge_op opx_add (ge_frz (ge_lcR (own := [("wish", 2)]) (t := .name 2) rfl sc__law_others.nd (gi_tup (GE.of_pure (gp_ix ixx (gp_var (pv 0)) gp_int (fun _ _ => rfl)))) (blkOk_by (own := [("wish", 2)]) (N := ["trust", "names", "wish", "tie", "name"]) (sc := defScope s__law_others) (by decide +kernel)) (fun _ _ _ _ _ => (pg_name (i := 2) sc__law_others.nd rfl (Or.inl rfl))) (fun _ _ _ _ _ => (GE.of_pure (gp_ix ixx (gp_var (pv 2)) gp_int (fun _ _ => rfl)))) (by decide) (mem1 rfl) (mem1 (Nat.le_of_ble_eq_true rfl)))) (ge_frz (ge_lcR (own := [("tie", 3)]) (t := .name 3) rfl sc__law_others.nd (gi_tup (GE.of_pure (gp_ix ixx (gp_var (pv 0)) gp_int (fun _ _ => rfl)))) (blkOk_by (own := [("tie", 3)]) (N := ["trust", "names", "wish", "tie", "name"]) (sc := defScope s__law_others) (by decide +kernel)) (fun _ _ _ _ _ => (pg_name (i := 3) sc__law_others.nd rfl (Or.inl rfl))) (fun _ _ _ _ _ => (GE.of_pure (gp_ix ixx (gp_var (pv 3)) gp_int (fun _ _ => rfl)))) (by decide) (mem1 rfl) (mem1 (Nat.le_of_ble_eq_true rfl))))) (ge_frz (ge_lcR (own := [("tie", 3)]) (t := .name 3) rfl sc__law_others.nd (gi_tup (GE.of_pure (gp_ix ixx (gp_var (pv 0)) gp_int (fun _ _ => rfl)))) (blkOk_by (own := [("tie", 3)]) (N := ["trust", "names", "wish", "tie", "name"]) (sc := defScope s__law_others) (by decide +kernel)) (fun _ _ _ _ _ => (pg_name (i := 3) sc__law_others.nd rfl (Or.inl rfl))) (fun _ _ _ _ _ => (GE.of_pure (gp_ix ixx (gp_var (pv 3)) gp_int (fun _ _ => rfl)))) (by decide) (mem1 rfl) (mem1 (Nat.le_of_ble_eq_true rfl))))))
      (gss_one (gs_ret (ge_sortedSets rfl (by rfl) T.z_sorted (by rfl) T.z_set (ge_frz (ge_lcR1 (own := [("name", 4)]) (t := .name 4) rfl sc__law_others.nd (gi_list (GE.of_pure (gp_var (pv 1)))) (blkOk_by (own := [("name", 4)]) (N := ["trust", "names", "wish", "tie", "name"]) (sc := defScope s__law_others) (by decide +kernel)) (fun _ _ _ _ _ => (pg_name (i := 4) sc__law_others.nd rfl (Or.inl rfl))) (fun _ _ _ _ _ => (gt_cmpP (opx_ne hr.units) (gp_var (pv 4)) (gp_ix ixx (gp_var (pv 0)) gp_int (fun _ _ => rfl)) (nomark _))) (fun _ _ _ _ _ => (GE.of_pure (gp_var (pv 4)))) (by decide) (mem1 rfl) (mem1 (Nat.le_of_ble_eq_true rfl)))))))), fun ds Q ⟨o, ts, ws, h, ok, q⟩ => ?_⟩
  subst h
  have tl := ok.tl
  have wl := ok.wl
  refine x_start (e := [some (.f (.tup [.str o, .tup ts, .tup ws])), none, none, none, none]) rfl ?_
  walk_at "x"
  refine ⟨by omega, fun i acc e => acc = ((ws.take i).map nm0).map D.str ∧ ∃ x2, e = [some (.f (.tup [.str o, .tup ts, .tup ws])), none, x2, none, none], ⟨rfl, _, rfl⟩, ?_, ?_⟩
  · rintro i d acc e hd ⟨rfl, x2, rfl⟩
    refine ⟨_, rfl, ?_⟩
    obtain ⟨a, dd, s, u, rfl, _⟩ := ok.hw d (List.mem_of_getElem? hd)
    dsimp only [List.map_cons, List.map_nil, wipeE, setE, Tgt.js, List.set_cons_zero, List.set_cons_succ]
    walk_at "x"
    exact ⟨by rw [take_snoc hd, List.map_append, List.map_append]; rfl, _, rfl⟩
  rintro acc e ⟨rfl, x2, rfl⟩
  rw [List.take_length]
  walk_at "x"
  refine ⟨by omega, fun i acc e => acc = ((ts.take i).map nm0).map D.str ∧ ∃ x3, e = [some (.f (.tup [.str o, .tup ts, .tup ws])), none, none, x3, none], ⟨rfl, _, rfl⟩, ?_, ?_⟩
  · rintro i d acc e hd ⟨rfl, x2, rfl⟩
    refine ⟨_, rfl, ?_⟩
    obtain ⟨a, b, s, u, rfl, _⟩ := ok.ht d (List.mem_of_getElem? hd)
    dsimp only [List.map_cons, List.map_nil, wipeE, setE, Tgt.js, List.set_cons_zero, List.set_cons_succ]
    walk_at "x"
    exact ⟨by rw [take_snoc hd, List.map_append, List.map_append]; rfl, _, rfl⟩
  rintro acc e ⟨rfl, x3, rfl⟩
  rw [List.take_length]
  walk_at "x"
  refine ⟨by omega, fun i acc e => acc = ((ts.take i).map nm1).map D.str ∧ ∃ x3, e = [some (.f (.tup [.str o, .tup ts, .tup ws])), none, none, x3, none], ⟨rfl, _, rfl⟩, ?_, ?_⟩
  · rintro i d acc e hd ⟨rfl, x2, rfl⟩
    refine ⟨_, rfl, ?_⟩
    obtain ⟨a, b, s, u, rfl, _⟩ := ok.ht d (List.mem_of_getElem? hd)
    dsimp only [List.map_cons, List.map_nil, wipeE, setE, Tgt.js, List.set_cons_zero, List.set_cons_succ]
    walk_at "x"
    exact ⟨by rw [take_snoc hd, List.map_append, List.map_append]; rfl, _, rfl⟩
  rintro acc e ⟨rfl, x3, rfl⟩
  rw [List.take_length]
  walk_at "x"
  rw [show List.map D.str (List.map nm0 ws) ++ List.map D.str (List.map nm0 ts) ++ List.map D.str (List.map nm1 ts) = (ws.map nm0 ++ ts.map nm0 ++ ts.map nm1).map D.str by rw [List.map_append, List.map_append]]
  have oko := oths_ok ok
  have lall : (ws.map nm0 ++ ts.map nm0 ++ ts.map nm1).length ≤ 50 := by simp; omega
  have hoths : (ws.map nm0 ++ ts.map nm0 ++ ts.map nm1).filter (· != o) = oths o ts ws := rfl
  generalize ws.map nm0 ++ ts.map nm0 ++ ts.map nm1 = all at oko lall hoths
  refine ⟨by rw [List.length_map]; omega, fun i acc e => acc = ((all.take i).filter (· != o)).map D.str ∧ ∃ x4, e = [some (.f (.tup [.str o, .tup ts, .tup ws])), some (.f (.lst (all.map D.str))), none, none, x4], ⟨rfl, _, rfl⟩, ?_, ?_⟩
  · rintro i d acc e hd ⟨rfl, x2, rfl⟩
    obtain ⟨y, hy, rfl⟩ := at_map hd
    refine ⟨_, rfl, ?_⟩
    dsimp only [List.map_cons, List.map_nil, wipeE, setE, Tgt.js, List.set_cons_zero, List.set_cons_succ]
    walk_at "x"
    refine x_neD (okPy_str (oko y (List.mem_of_getElem? hy)).1) (okPy_str ok.ho.1) ?_
    rw [eq_strs]
    walk_at "x"
    cases hc : y == o with
    | true =>
      rw [if_pos rfl]
      exact ⟨by rw [take_snoc hy, List.filter_append, List.filter_cons_of_neg (by rw [bne, hc]; decide), List.filter_nil, List.append_nil], _, rfl⟩
    | false =>
      rw [if_neg Bool.false_ne_true]
      walk_at "x"
      exact ⟨by rw [take_snoc hy, List.filter_append, List.filter_cons_of_pos (by rw [bne, hc]; rfl), List.filter_nil, List.map_append]; rfl, _, rfl⟩
  rintro acc e ⟨rfl, x4, rfl⟩
  rw [List.length_map, List.take_length]
  walk_at "x"
  have le : (all.filter (· != o)).length ≤ 50 := Nat.le_trans (List.length_filter_le ..) lall
  refine ⟨all.filter (· != o), rfl, Nat.lt_of_le_of_lt (SS.met_len _ _) (by omega), by omega, fun ys nd _ mem => ⟨nofun, Nat.le_of_ble_eq_true rfl, ?_⟩⟩
  refine q ys (by rw [← hoths]; exact nodup_len nd mem) (fun y hy => oko y ?_) fun y => by rw [← hoths]; exact mem y
  exact (List.mem_filter.mp ((mem y).mp hy)).1
/-! ### the law's own words -/
/-! ### the law's forms -/
theorem deeds4_strs : ∀ {d : D}, d ∈ deeds4 → ∃ xs : List Str, d = .tup (xs.map D.str) ∧ ∀ x ∈ xs, TxOk x := by
  intro d h
  have o1 : TxOk "look" := by constructor <;> decide +kernel
  have o2 : TxOk "set" := by constructor <;> decide +kernel
  rcases List.mem_cons.mp h with rfl | h
  · exact ⟨["look"], rfl, List.forall_mem_cons.mpr ⟨o1, nofun⟩⟩
  rcases List.mem_cons.mp h with rfl | h
  · exact ⟨["set"], rfl, List.forall_mem_cons.mpr ⟨o2, nofun⟩⟩
  rcases List.mem_cons.mp h with rfl | h
  · exact ⟨["look", "set"], rfl, List.forall_mem_cons.mpr ⟨o1, List.forall_mem_cons.mpr ⟨o2, nofun⟩⟩⟩
  obtain rfl := List.mem_singleton.mp h
  exact ⟨["set", "look"], rfl, List.forall_mem_cons.mpr ⟨o2, List.forall_mem_cons.mpr ⟨o1, nofun⟩⟩⟩
/-! ### lies, within -/
theorem okPy_ties {ts : List Ti} (h : ∀ t ∈ ts, t.Ok) : okPy (.lst (ts.map Ti.d)) = true := by
  refine (fit_lst (n := 1) fun x hx => ?_).ok (by decide)
  obtain ⟨t, ht, rfl⟩ := List.mem_map.mp hx
  have o := h t ht
  refine fit_tup fun x hx => ?_
  simp only [List.mem_cons, List.not_mem_nil, or_false] at hx
  rcases hx with rfl | rfl | rfl | rfl
  · exact fit_str (name_cp o.a)
  · exact fit_str (name_cp o.b)
  · exact fit_int
  · exact fit_int
def wLLies : WFn := fun ds Q => ∃ (oo : Str) (ts : List Ti) (xs : List Wi) (r : Rw), ds = [trustD oo ts xs, .str r.g, .str r.h, .int r.s, .int r.u] ∧ TrOk oo ts xs ∧ PyData.strOk r.g = true ∧ PyData.strOk r.h = true ∧ Q (.f (.bl (tieV ts r)))
theorem mono__law_lies : MonoF wLLies := fun ds Q Q' i ⟨oo, ts, xs, r, h1, h2, h3, h4, q⟩ => ⟨oo, ts, xs, r, h1, h2, h3, h4, i _ q⟩
theorem any_ne {α : Type} {f : α → Bool} {g : α → D} {l : List α} : (!((l.filter f).map g).isEmpty) = l.any f := by
  induction l with
  | nil => rfl
  | cons x l ih =>
    rw [List.filter_cons, List.any_cons]
    cases h : f x with
    | true => rfl
    | false => rw [if_neg Bool.false_ne_true, Bool.false_or]; exact ih
theorem ne_nilD (l : List D) : eqB (.lst l) (.lst []) = l.isEmpty := by
  cases l <;> (show PyData.eqvAll (D.pyL _) [] = _; simp [D.pyL, PyData.eqvAll])
theorem ok_llies (T : Txt K mg) (A : At K mg "_law_lies" s__law_lies ["trust", "giver", "holder", "since", "until"]) : Cal P w K mg base 1 "_law_lies" (spW K tabs (liftF wLLies)) := by
  refine A.of fun f fd F => fx_fnF F sc__law_lies (fun ds Q ⟨_, _, _, _, h, _⟩ => by rw [h]; rfl) fun cdv A outer s H E TT P0 σ0 hcd hr => ⟨_, (gss_cons (gs_lcFR1 (i := 5) (own := [("tie", 6)]) (t := .name 6) rfl sc__law_lies.nd rfl rfl (sw_true rfl rfl rfl (by decide +kernel)) (gi_tup (GE.of_pure (gp_ix ixx (gp_var (pv 0)) gp_int (fun _ _ => rfl)))) (blkOk_by (own := [("tie", 6)]) (N := ["trust", "giver", "holder", "since", "until", "some", "tie"]) (sc := defScope s__law_lies) (by decide +kernel)) (fun _ _ _ _ _ => (pg_name (i := 6) sc__law_lies.nd rfl (Or.inl rfl))) (fun _ _ _ _ _ => (gt_cmp (opx_eq hr.units) (ge_sl (GE.of_pure (gp_var (pv 6))) go_none (go_some (GE.of_pure gp_int))) (ge_tupD (gd_cons (GE.of_pure (gp_var (pv 1))) (gd_cons (GE.of_pure (gp_var (pv 2))) gd_nil))) (nomark _))) (fun _ _ _ _ _ => (GE.of_pure (gp_var (pv 6)))) (by decide) (mem1 rfl) (mem1 (Nat.le_of_ble_eq_true rfl)))
      (gss_one (gs_ret (ge_cmp (opx_ne hr.units) (ge_frz (ge_lcR1 (own := [("tie", 6)]) (t := .name 6) rfl sc__law_lies.nd (gi_list (GE.of_pure (gp_var (pv 5)))) (blkOk_by (own := [("tie", 6)]) (N := ["trust", "giver", "holder", "since", "until", "some", "tie"]) (sc := defScope s__law_lies) (by decide +kernel)) (fun _ _ _ _ _ => (pg_name (i := 6) sc__law_lies.nd rfl (Or.inl rfl))) (fun _ _ _ _ _ => (GW.gt (gw_and (gt_cmpP opx_le (gp_ix ixx (gp_var (pv 6)) gp_int (fun _ _ => rfl)) (gp_var (pv 3)) (nomark _)) (gw_and1 (gt_cmpP opx_le (gp_var (pv 4)) (gp_ix ixx (gp_var (pv 6)) gp_int (fun _ _ => rfl)) (nomark _)))))) (fun _ _ _ _ _ => (GE.of_pure (gp_var (pv 6)))) (by decide) (mem1 rfl) (mem1 (Nat.le_of_ble_eq_true rfl)))) (ge_lstD gd_nil) (nomark _))))), fun ds Q ⟨oo, ts, xs, r, e, tr, hg, hh, q⟩ => ?_⟩
  subst e
  have tl := tr.tl
  refine x_start (e := [some (.f (.tup [.str oo, .tup (ts.map Ti.d), .tup (xs.map Wi.d)])), some (.f (.str r.g)), some (.f (.str r.h)), some (.f (.int r.s)), some (.f (.int r.u)), none, none]) rfl ?_
  walk_at "x"
  refine ⟨by rw [List.length_map]; omega, fun i acc e => acc = ((ts.take i).filter (hitT r)).map Ti.d ∧ ∃ x6, e = [some (.f (.tup [.str oo, .tup (ts.map Ti.d), .tup (xs.map Wi.d)])), some (.f (.str r.g)), some (.f (.str r.h)), some (.f (.int r.s)), some (.f (.int r.u)), none, x6], ⟨rfl, _, rfl⟩, ?_, ?_⟩
  · rintro i d acc e hd ⟨rfl, x6, rfl⟩
    rw [List.getElem?_map] at hd
    obtain ⟨t, ht, rfl⟩ := Option.map_eq_some_iff.mp hd
    have okt := tr.hts t (List.mem_of_getElem? ht)
    refine ⟨_, rfl, ?_⟩
    dsimp only [List.map_cons, List.map_nil, wipeE, setE, Tgt.js, List.set_cons_zero, List.set_cons_succ]
    rw [show t.d = .tup [.str t.a, .str t.b, .int t.s, .int t.u] from rfl]
    walk_at "x"
    refine x_slT (ds' := [.str t.a, .str t.b]) rfl ?_
    walk_at "x"
    refine x_eqD (pair_ok (name_cp okt.a) (name_cp okt.b)) (pair_ok hg hh) ?_
    rw [eqB_pair]
    walk_at "x"
    have sn : (ts.take (i + 1)).filter (hitT r) = (ts.take i).filter (hitT r) ++ [t].filter (hitT r) := by rw [take_snoc ht, List.filter_append]
    cases hc : ((t.a == r.g) && (t.b == r.h)) with
    | true =>
      rw [if_pos rfl]
      rw [show [t].filter (hitT r) = [t] by rw [List.filter_cons, if_pos (show hitT r t = true from hc)]; rfl] at sn
      walk_at "x"
      exact ⟨by rw [sn, List.map_append]; rfl, _, rfl⟩
    | false =>
      rw [if_neg Bool.false_ne_true]
      rw [show [t].filter (hitT r) = [] by rw [List.filter_cons, if_neg (by rw [show hitT r t = false from hc]; decide)]; rfl, List.append_nil] at sn
      exact ⟨by rw [sn], _, rfl⟩
  rintro acc e ⟨rfl, x6, rfl⟩
  rw [List.length_map, List.take_length]
  have fl : (ts.filter (hitT r)).length ≤ 20 := Nat.le_trans (List.length_filter_le ..) tl
  have fo : ∀ t ∈ ts.filter (hitT r), t.Ok := fun t h => tr.hts t (List.mem_filter.mp h).1
  unfold tieV at q
  generalize ts.filter (hitT r) = fs at fl fo q
  try dsimp only [List.map_cons, List.map_nil, wipeE, List.set_cons_zero, List.set_cons_succ]
  walk_at "x"
  refine ⟨by rw [List.length_map]; omega, fun i acc e => acc = ((fs.take i).filter (inT r)).map Ti.d ∧ ∃ x7, e = [some (.f (.tup [.str oo, .tup (ts.map Ti.d), .tup (xs.map Wi.d)])), some (.f (.str r.g)), some (.f (.str r.h)), some (.f (.int r.s)), some (.f (.int r.u)), some (.f (.lst (fs.map Ti.d))), x7], ⟨rfl, _, rfl⟩, ?_, ?_⟩
  · rintro i d acc e hd ⟨rfl, x7, rfl⟩
    rw [List.getElem?_map] at hd
    obtain ⟨t, ht, rfl⟩ := Option.map_eq_some_iff.mp hd
    refine ⟨_, rfl, ?_⟩
    dsimp only [List.map_cons, List.map_nil, wipeE, setE, Tgt.js, List.set_cons_zero, List.set_cons_succ]
    rw [show t.d = .tup [.str t.a, .str t.b, .int t.s, .int t.u] from rfl]
    walk_at "x"
    have yes : inT r t = true → ((fs.take i).filter (inT r)).map Ti.d ++ [D.tup [.str t.a, .str t.b, .int t.s, .int t.u]] = ((fs.take (i + 1)).filter (inT r)).map Ti.d := fun h => by
      rw [take_snoc ht, List.filter_append, List.filter_cons_of_pos h, List.filter_nil, List.map_append]
      rfl
    have no : inT r t = false → ((fs.take i).filter (inT r)).map Ti.d = ((fs.take (i + 1)).filter (inT r)).map Ti.d := fun h => by
      rw [take_snoc ht, List.filter_append, List.filter_cons_of_neg (by rw [h]; decide), List.filter_nil, List.append_nil]
    refine x_ite (fun h3 => ?_) (fun h3 => ?_)
    · walk_at "x"
      refine x_ite (fun h4 => ?_) (fun h4 => ?_)
      · walk_at "x"
        exact ⟨yes (by show (_ && _) = true; rw [h3, h4]; rfl), _, rfl⟩
      · walk_at "x"
        exact ⟨no (by show (_ && _) = false; rw [h3, h4]; rfl), _, rfl⟩
    · walk_at "x"
      exact ⟨no (by show (_ && _) = false; rw [h3]; rfl), _, rfl⟩
  rintro acc e ⟨rfl, x7, rfl⟩
  rw [List.length_map, List.take_length]
  try dsimp only [List.map_cons, List.map_nil, wipeE, List.set_cons_zero, List.set_cons_succ]
  walk_at "x"
  refine x_neD ?_ (by decide +kernel) ?_
  · exact okPy_ties fun t ht => fo t (List.mem_filter.mp ht).1
  walk_at "x"
  rw [ne_nilD, any_ne]
  exact q

theorem pairs_case (cs : Case) : (cs.map fun p => D.tup [.str p.1, .str p.2]) = (cP cs).map Fx.pairD := by
  unfold cP
  rw [List.map_map]
  rfl
theorem keys_case (cs : Case) : (cP cs).map (·.1) = (cs.map (·.1)).map Sum.inr := by
  unfold cP
  rw [List.map_map, List.map_map]
  rfl
theorem put_new {acc : List (Key × D)} {k : Key} {d : D} (h : ∀ p ∈ acc, p.1 ≠ k) : putP acc k d = acc ++ [(k, d)] := by
  unfold putP
  rw [if_neg]
  rw [Bool.not_eq_true, List.any_eq_false]
  intro p hp
  simpa using h p hp
theorem merge_new : ∀ (l acc : List (Key × D)), ((acc ++ l).map (·.1)).Nodup → mergeP acc l = acc ++ l
  | [], acc, _ => by rw [List.append_nil]; rfl
  | (k, v) :: l, acc, nd => by
    have n1 : ∀ p ∈ acc, p.1 ≠ k := fun p hp e => by
      rw [List.map_append, List.nodup_append] at nd
      exact nd.2.2 p.1 (List.mem_map.mpr ⟨p, hp, rfl⟩) k (List.mem_map.mpr ⟨(k, v), List.mem_cons_self .., rfl⟩) e
    show mergeP (putP acc k v) l = _
    rw [put_new n1, merge_new l (acc ++ [(k, v)]) (by rw [List.append_assoc]; exact nd), List.append_assoc]
    rfl
theorem nodup_inr : ∀ {l : List Str}, l.Nodup → (l.map (Sum.inr : Str → Key)).Nodup := fun h => List.Pairwise.map _ (fun a b n e => n (Sum.inr.inj e)) h
def pairsD (cs : Case) : D := .lst (cs.map fun p => .tup [.str p.1, .str p.2])

def IsMin (s : Int) (b : List Wi) : Prop := s ∈ b.map (·.s) ∧ ∀ x ∈ b, s ≤ x.s
def IsMax (u : Int) (b : List Wi) : Prop := u ∈ b.map (·.u) ∧ ∀ x ∈ b, x.u ≤ u
end
end K80

namespace K80
open PySem PySem.Spec PyProof.Rows L2 Lk Evl Fx


local macro_rules | `(tactic| walk_at "sz") => `(tactic| first
  | exact Nat.le_of_ble_eq_true rfl
  | assumption
  | exact small_sz (Nat.le_of_ble_eq_true rfl)
  | (simp only [List.length_cons, List.length_nil, List.length_map, List.length_append]; first | omega | exact small_sz (by omega)))
local macro_rules | `(tactic| walk_at "x1") => `(tactic| first
  | with_reducible refine x_seq ?_
  | (with_reducible show wVar _ _ _); first | refine x_varF rfl ?_ | refine x_varO rfl ?_ | refine x_varV rfl ?_
  | with_reducible refine x_c ?_
  | with_reducible refine x_exf ?_
  | with_reducible refine x_excd ?_
  | (with_reducible show ∃ d1, Sl.cd (Sl.vw _) = some d1 ∧ _); refine x_excV rfl ?_
  | (with_reducible show ∃ d1, Sl.cd (Sl.own _) = some d1 ∧ _); refine x_excO rfl ?_
  | with_reducible refine x_binP ?_
  | with_reducible refine x_bin ?_
  | with_reducible refine x_adC ?_
  | with_reducible refine x_adN ?_
  | with_reducible refine x_lst ?_
  | with_reducible refine x_tup ?_
  | with_reducible refine x_lstO ?_
  | (with_reducible refine x_and (p := _ ≤ sizeLine) ?h ?_); (case h => walk_at "sz")
  | with_reducible refine x_callF ?_
  | with_reducible refine x_callL ?_
  | with_reducible refine x_listO ?_
  | with_reducible refine x_dstar ?_
  | with_reducible refine x_getN ?_
  | with_reducible refine x_ss ?_
  | with_reducible refine x_mulO ?_
  | with_reducible refine x_iZM ?_
  | (with_reducible show wCallU _ _ _ _ _); refine x_callU rfl ?_
  | with_reducible refine x_callV ?_
  | with_reducible refine x_join ?_
  | with_reducible refine x_waD ?_
  | with_reducible refine x_lc ?_
  | with_reducible refine x_lc2 ?_
  | with_reducible refine x_lenSets ?_
  | (with_reducible show wApp _ _ _ _); refine x_app rfl ?_
  | (with_reducible show wBinV _ _ _ _ _); refine x_binV rfl ?_
  | (with_reducible show wPopD _ _ _ _); refine x_popD rfl ?_
  | (with_reducible show wCatV _ _ _ _); refine x_catV rfl ?_
  | with_reducible refine x_slN2 ?_
  | with_reducible refine x_sortedSets ?_
  | with_reducible refine x_tplL ?_
  | with_reducible refine x_tplT ?_
  | with_reducible refine x_isB ?_
  | with_reducible refine x_r1 ?_
  | with_reducible refine x_r2 ?_
  | (with_reducible refine x_r1e ?h0 ?h1 ?_); (case h0 => omega); (case h1 => omega)
  | with_reducible refine x_iL ?_
  | with_reducible refine x_iT ?_
  | with_reducible refine x_iS ?_
  | with_reducible refine x_iE ?_
  | with_reducible refine x_iEe ?_
  | with_reducible refine x_yes ?_
  | with_reducible refine x_for ?_
  | (with_reducible show wLot _ [D.int _] _); (refine' x_lot (by assumption) ?h1 ?h2 ?h3 ?_); (case h1 => omega); (case h2 => first | decide | omega); (case h3 => first | decide | omega)
  | (with_reducible show ∃ o, _ = some (some (Sl.own o)) ∧ _); refine x_exO rfl ?_
  | with_reducible refine x_exo ?_
  | with_reducible refine x_ret ?_
  | with_reducible refine x_set ?_
  | with_reducible refine x_fin ?_
  | with_reducible refine x_fino ?_
  | (with_reducible refine x_and (p := _ < List.length _) ?h ?_); (case h => exact Nat.le_of_ble_eq_true rfl); (try dsimp only [List.set_cons_succ, List.set_cons_zero])
  | with_reducible refine x_next ?_
  | with_reducible refine x_retN ?_
  | with_reducible refine x_drop ?_
  | with_reducible refine x_asg ?_
  | (with_reducible refine x_gtp ?h ?_); (case h => rfl)
  | with_reducible refine x_gcons ?_
  | with_reducible refine x_gnil ?_
  | (with_reducible refine x_gn ?h ?_); (case h => exact Nat.le_of_ble_eq_true rfl); (try dsimp only [List.set_cons_succ, List.set_cons_zero])
  | with_reducible refine x_ifS ?_
  | with_reducible refine x_if ?_
  | with_reducible refine x_itT ?_
  | with_reducible refine x_itF ?_
  | with_reducible refine x_iteN ?_
  | with_reducible refine x_tru ?_
  | with_reducible refine x_tB ?_
  | with_reducible refine x_dtB ?_
  | with_reducible refine x_dtN ?_
  | with_reducible refine x_exb ?_
  | with_reducible refine x_exdb ?_
  | with_reducible refine x_tand ?_
  | with_reducible refine x_tor ?_
  | with_reducible refine x_tnot ?_
  | with_reducible refine x_and2 ?_
  | with_reducible refine x_or2 ?_
  | with_reducible refine x_not2 ?_
  | with_reducible refine x_chain ?_
  | with_reducible refine x_sub ?_
  | with_reducible refine x_addI ?_
  | (with_reducible refine x_addS ?h ?_); (case h => walk_at "sz")
  | (with_reducible refine x_addL ?h ?_); (case h => walk_at "sz")
  | (with_reducible refine x_addT ?h ?_); (case h => walk_at "sz")
  | with_reducible refine x_lt ?_
  | with_reducible refine x_le ?_
  | with_reducible refine x_gt ?_
  | with_reducible refine x_ge ?_
  | with_reducible refine x_ltS ?_
  | with_reducible refine x_eqI ?_
  | with_reducible refine x_neI ?_
  | with_reducible refine x_allSg ?_
  | with_reducible refine x_m0 ?_
  | with_reducible refine x_lstT ?_
  | with_reducible refine x_lstL ?_
  | with_reducible refine x_strB ?_
  | with_reducible refine x_strN ?_
  | with_reducible refine x_strS ?_
  | with_reducible refine x_isT ?_
  | with_reducible refine x_isI ?_
  | with_reducible refine x_neg ?_
  | with_reducible refine x_un ?_
  | (with_reducible refine x_pow ?h ?_); (case h => exact ⟨by decide, by decide +kernel⟩)
  | (with_reducible refine x_mod ?h ?_); (case h => first | decide | omega)
  | (with_reducible refine x_mul ?h ?_); (case h => exact mul_ok (by first | decide | omega) (by first | decide | omega))
  | (with_reducible refine x_div ?h ?_); (case h => exact div_ok (by first | decide | omega) (by first | decide | omega))
  | with_reducible refine x_ipA ?_
  | (with_reducible show wAugL _ _ _ _ _ _); refine x_augL rfl ?_
  | (with_reducible show wAug _ _ _ _ _); refine x_aug rfl ?_
  | (with_reducible show ∃ k' ds d, Sl.f (D.int _) = Sl.f (D.int k') ∧ _); refine x_augL1 rfl (by decide) rfl ?_
  | (with_reducible show ∃ k' j ds, Sl.f (D.int _) = Sl.f (D.int k') ∧ _ = some (some (Sl.own (O.lst ds))) ∧ ixN _ k' = some j ∧ _); refine x_setL1 rfl rfl ?_; (try dsimp only [List.set_cons_succ, List.set_cons_zero])
  | (with_reducible show ∃ ds j, _ = some (some (Sl.own (O.lst ds))) ∧ ixN _ _ = some j ∧ _); refine x_augL2 rfl rfl ?_; (try dsimp only [List.set_cons_succ, List.set_cons_zero])
  | (with_reducible show gSetL _ _ _ _ _); refine x_setL rfl ?_
  | (with_reducible show dIx (D.lst _) (D.int _) _); refine x_ixL rfl ?_
  | (with_reducible show dIx (D.tup _) (D.int _) _); refine x_ixT rfl ?_
  | with_reducible refine x_cb ?_
  | (with_reducible show wCB1 _ _ _ _); refine x_cb1 rfl rfl ?_
  | with_reducible refine x_fm ?_
  | with_reducible refine x_exl ?_
  | with_reducible refine x_ext ?_
  | with_reducible refine x_exs ?_
  | with_reducible refine x_exi ?_
  | with_reducible refine x_sl ?_
  | with_reducible refine x_slN ?_
  | with_reducible refine x_slS ?_
  | with_reducible refine x_frz ?_
  | with_reducible refine x_frL ?_
  | with_reducible refine x_revT ?_
  | with_reducible refine x_revL ?_
  | with_reducible refine x_splitO ?_
  | (with_reducible show wSlO _ _ _ _ _); refine x_slO rfl ?_
  | (with_reducible show ∃ ds2, _ = some (some (Sl.own (O.lst ds2))) ∧ _); refine x_exOl rfl ?_
  | with_reducible refine x_dictO ?_
  | with_reducible refine x_psC ?_
  | with_reducible refine x_psN ?_
  | with_reducible refine x_get ?_
  | (with_reducible show gSetSl _ _ _ _ _ _); refine x_setSl rfl ?_
  | with_reducible refine x_split ?_
  | with_reducible refine x_isN1 ?_
  | with_reducible refine x_isN0 rfl ?_
  | with_reducible refine x_iZ ?_
  | with_reducible refine x_zT ?_
  | with_reducible refine x_zL ?_
  | with_reducible refine x_stp ?_
  | with_reducible refine x_js ?_
  | with_reducible refine x_jsC ?_
  | with_reducible refine x_jsN ?_
  | with_reducible refine x_fmt ?_
  | with_reducible refine x_callFX ?_
  | (with_reducible refine x_glp ?h ?_); (case h => rfl)
  | with_reducible refine x_raiseR ?_
  | with_reducible refine x_row ?_
  | with_reducible refine x_lenL ?_
  | with_reducible refine x_lenT ?_
  | with_reducible refine x_lenD ?_
  | (with_reducible refine x_lenS ?h ?_); (case h => walk_at "sz")
  | with_reducible refine x_max ?_
  | with_reducible refine x_min ?_
  | with_reducible refine x_intI ?_
  | with_reducible refine x_intB ?_
  | (with_reducible refine x_isInt ?h ?_); (case h => first | assumption | exact part_ty (by assumption) | (intro _ hh; cases hh; done))
  | (with_reducible refine x_isBl ?h ?_); (case h => first | assumption | exact part_ty (by assumption) | (intro _ hh; cases hh; done))
  | (with_reducible refine x_isStr ?h ?_); (case h => first | assumption | exact part_ty (by assumption) | (intro _ hh; cases hh; done))
  | (with_reducible refine x_isTup ?h ?_); (case h => first | assumption | exact part_ty (by assumption) | (intro _ hh; cases hh; done))
  | (with_reducible refine x_isLst ?h ?_); (case h => first | assumption | exact part_ty (by assumption) | (intro _ hh; cases hh; done))
  | (with_reducible refine x_isDic ?h ?_); (case h => first | assumption | exact part_ty (by assumption) | (intro _ hh; cases hh; done))
  | (with_reducible refine x_itTe ?e ?_); (case e => rfl)
  | (with_reducible refine x_itFe ?e ?_); (case e => rfl)
  | with_reducible refine x_dnewO ?_
  | with_reducible refine x_dput ?_
  | with_reducible refine x_dix ?_
  | with_reducible refine x_sortedD ?_
  | with_reducible refine x_star ?_
  | with_reducible refine x_starT ?_
  | with_reducible refine x_frzD ?_
  | with_reducible refine x_sw ?_
  | with_reducible refine x_cnt ?_
  | with_reducible refine x_waC ?_
  | with_reducible refine x_waN ?_
  | with_reducible refine x_lenDD ?_
  | with_reducible refine x_allX ?_
  | (with_reducible show wFz _ _ _ _); refine x_fz rfl ?_
  | (with_reducible show wFzS _ _ _ _); refine x_fzS rfl ?_
  | (with_reducible show wFzO _ _ _ _); refine x_fzO rfl ?_
  | (with_reducible show wiK _ _ _); refine x_iK rfl ?_
  | (with_reducible show wiIt _ _ _); refine x_iIt rfl ?_
  | with_reducible refine x_iE1 ?_
  | with_reducible refine x_forR ?_
  | (with_reducible show wDIxV _ _ _ _); refine x_dixV rfl (cd_dicO _) ?_
  | (with_reducible show wDPop _ _ _ _); refine x_dpop rfl ?_
  | with_reducible refine x_pickO ?_
  | (with_reducible show wExt _ _ _ _); refine x_extO rfl ?_
  | with_reducible refine x_sortedR ?_
  | with_reducible refine x_sortedL ?_
  | with_reducible refine x_ixSt ?_
  | (with_reducible show wiVal _ _ _); refine x_iVal rfl ?_
  | with_reducible refine x_dictP ?_
  | with_reducible refine x_dictZip ?_
  | with_reducible refine x_revS ?_
  | with_reducible refine x_par ?_
  | (with_reducible show wIsiV _ _ _ _ _); refine x_isiV rfl ?_
  | ((with_reducible show _ ∧ _); refine And.intro (Nat.le_of_ble_eq_true rfl) ?_))
local macro_rules | `(tactic| walk_at "x") => `(tactic| repeat (walk_at "x1"))

section
variable {P : Program} {w : World} {K : PySem.W.Frag} {mg : Str → Option Value} {base : Heap} {tabs : List Addr}
/-! ### the law: who comes to whom, late, next, tied -/
def wComes : WFn := fun ds Q => ∃ (cs : Case) (x y : Str), ds = [pairsD cs, .str x, .str y] ∧ CsOk cs ∧ PyData.strOk x = true ∧ PyData.strOk y = true ∧ (Reach cs x y → Q (.f (.bl true))) ∧ (¬ Reach cs x y → Q (.f (.bl false)))
theorem mono__law_comes : MonoF wComes := fun ds Q Q' i ⟨cs, x, y, h1, h2, h3, h4, q1, q2⟩ => ⟨cs, x, y, h1, h2, h3, h4, fun h => i _ (q1 h), fun h => i _ (q2 h)⟩
theorem goes_name2 {cs : Case} (ok : CsOk cs) {n : Nat} {a y : Str} (ha : PyData.strOk a = true) (h : goes cs n a = some y) : PyData.strOk y = true := by
  cases n with
  | zero => cases h; exact ha
  | succ n => exact goes_name ok h
theorem merge_case (cs : Case) (nd : (cs.map (·.1)).Nodup) : mergeP [] (cP cs) = cP cs := by
  have := merge_new (cP cs) [] (by rw [List.nil_append, keys_case]; exact nodup_inr nd)
  rwa [List.nil_append] at this
theorem ok_comes (T : Txt K mg) (A : At K mg "_law_comes" s__law_comes ["case", "first", "goal"]) : Cal P w K mg base 1 "_law_comes" (spW K tabs (liftF wComes)) := by
  refine A.of fun f fd F => fx_fnF F sc__law_comes (fun ds Q ⟨_, _, _, h, _⟩ => by rw [h]; rfl) fun cdv A outer s H E TT P0 σ0 hcd hr => ⟨_, (gss_cons (gs_setE (i := 3) sc__law_comes.nd rfl (Or.inl rfl) (ge_frz (ge_dictP rfl rfl T.z_dict (GE.of_pure (gp_var (pv 0))))))
      (gss_cons (gs_setE (i := 4) sc__law_comes.nd rfl (Or.inl rfl) (GE.of_pure (gp_var (pv 1))))
      (gss_cons (gs_for PassesOwn.never rfl (gi_r1 rfl T.z_range (GD.ga (gd_cons (ge_op opx_add (ge_cbB1 cax_len (by rfl) T.z_len (by decide +kernel) (pv 0)) (GE.of_pure gp_int)) gd_nil))) (gg_name (pg_name (i := 5) sc__law_comes.nd rfl (Or.inl rfl)) rfl)
      (gss_cons (gs_if (gt_cmpP (opx_eq hr.units) (gp_var (pv 4)) (gp_var (pv 2)) (nomark _))
      (gss_one (gs_ret (GE.of_pure gp_bl)))
      gss_nil)
      (gss_one (gs_setE (i := 4) sc__law_comes.nd rfl (Or.inl rfl) (ge_getN hr.u65 (GE.of_pure (gp_var (pv 3))) (GE.of_pure (gp_var (pv 4))) ⟨rfl, rfl, rfl, rfl⟩)))))
      (gss_one (gs_ret (GE.of_pure gp_bl)))))), fun ds Q ⟨cs, x, y, e, ok, hx, hy, q1, q2⟩ => ?_⟩
  subst e
  have hcl := ok.len
  refine x_start (e := [some (.f (.lst (cs.map fun p => .tup [.str p.1, .str p.2]))), some (.f (.str x)), some (.f (.str y)), none, none, none]) rfl ?_
  walk_at "x"
  refine ⟨cP cs, by rw [pairs_case], ?_⟩
  rw [merge_case cs ok.nd]
  refine ⟨_, _, rfl, cd_dicO (cP cs), ?_⟩
  walk_at "x"
  refine ⟨_, rfl, by omega, by rw [List.length_map]; omega, fun i e => (∀ j, j < i → goes cs j x ≠ some y) ∧ ∃ x5, e = [some (.f (.lst (cs.map fun p => .tup [.str p.1, .str p.2]))), some (.f (.str x)), some (.f (.str y)), some (.f (cD cs)), some (.f (strO (goes cs i x))), x5], ⟨fun j h => absurd h (Nat.not_lt_zero _), _, rfl⟩, ?_, ?_⟩
  · rintro i d e hd ⟨hj, x5, rfl⟩
    obtain ⟨hi, rfl⟩ := rng_at hd
    cases hg : goes cs i x with
    | none =>
      dsimp only [strO]
      walk_at "x"
      refine x_eqD (by decide +kernel) (okPy_str hy) ?_
      rw [show eqB .non (.str y) = false from rfl]
      walk_at "x"
      refine ⟨_, _, rfl, ?_⟩
      walk_at "x"
      refine ⟨none, rfl, ?_⟩
      rw [show getO ((cP cs).map (·.1)) ((cP cs).map (·.2)) none = .non from rfl]
      walk_at "x"
      refine ⟨fun j h => ?_, _, by rw [show goes cs (i + 1) x = (goes cs i x).bind (look cs) from rfl, hg]; rfl⟩
      · rcases Nat.lt_or_ge j i with h' | h'
        · exact hj j h'
        · rw [show j = i by omega, hg]; exact nofun
    | some z =>
      have zn := goes_name2 ok hx hg
      dsimp only [strO]
      walk_at "x"
      refine x_eqD (okPy_str zn) (okPy_str hy) ?_
      rw [eq_strs]
      cases hc : z == y with
      | true =>
        walk_at "x"
        exact q1 ⟨i, by rw [hg, eq_of_beq hc]⟩
      | false =>
        walk_at "x"
        refine ⟨_, _, rfl, ?_⟩
        walk_at "x"
        refine ⟨some (.inr z), rfl, ?_⟩
        rw [show getO ((cP cs).map (·.1)) ((cP cs).map (·.2)) (some (.inr z)) = strO (look cs z) from getD_case cs z]
        walk_at "x"
        refine ⟨fun j h => ?_, _, by rw [show goes cs (i + 1) x = (goes cs i x).bind (look cs) from rfl, hg]; rfl⟩
        · rcases Nat.lt_or_ge j i with h' | h'
          · exact hj j h'
          · rw [show j = i by omega, hg]
            intro e
            cases e
            rw [beq_self_eq_true] at hc
            cases hc
  rintro e ⟨hj, x5, rfl⟩
  rw [List.length_map, List.length_range] at hj
  walk_at "x"
  refine q2 fun h => ?_
  obtain ⟨n, hn, e⟩ := reach_le h
  refine hj n ?_ e
  have : ((((cs.map fun p => D.tup [.str p.1, .str p.2]).length : Nat) : Int) + 1).toNat = cs.length + 1 := by rw [List.length_map]; omega
  omega

end
end K80

namespace K80
open PySem PySem.Spec PyProof.Rows L2 Lk Evl Fx


local macro_rules | `(tactic| walk_at "sz") => `(tactic| first
  | exact Nat.le_of_ble_eq_true rfl
  | assumption
  | exact small_sz (Nat.le_of_ble_eq_true rfl)
  | (simp only [List.length_cons, List.length_nil, List.length_map, List.length_append]; first | omega | exact small_sz (by omega)))
local macro_rules | `(tactic| walk_at "x1") => `(tactic| first
  | with_reducible refine x_seq ?_
  | (with_reducible show wVar _ _ _); first | refine x_varF rfl ?_ | refine x_varO rfl ?_ | refine x_varV rfl ?_
  | with_reducible refine x_c ?_
  | with_reducible refine x_exf ?_
  | with_reducible refine x_excd ?_
  | (with_reducible show ∃ d1, Sl.cd (Sl.vw _) = some d1 ∧ _); refine x_excV rfl ?_
  | (with_reducible show ∃ d1, Sl.cd (Sl.own _) = some d1 ∧ _); refine x_excO rfl ?_
  | with_reducible refine x_binP ?_
  | with_reducible refine x_bin ?_
  | with_reducible refine x_adC ?_
  | with_reducible refine x_adN ?_
  | with_reducible refine x_lst ?_
  | with_reducible refine x_tup ?_
  | with_reducible refine x_lstO ?_
  | (with_reducible refine x_and (p := _ ≤ sizeLine) ?h ?_); (case h => walk_at "sz")
  | with_reducible refine x_callF ?_
  | with_reducible refine x_callL ?_
  | with_reducible refine x_listO ?_
  | with_reducible refine x_dstar ?_
  | with_reducible refine x_getN ?_
  | with_reducible refine x_ss ?_
  | with_reducible refine x_mulO ?_
  | with_reducible refine x_iZM ?_
  | (with_reducible show wCallU _ _ _ _ _); refine x_callU rfl ?_
  | with_reducible refine x_callV ?_
  | with_reducible refine x_join ?_
  | with_reducible refine x_waD ?_
  | with_reducible refine x_lc ?_
  | with_reducible refine x_lc2 ?_
  | with_reducible refine x_lenSets ?_
  | (with_reducible show wApp _ _ _ _); refine x_app rfl ?_
  | (with_reducible show wBinV _ _ _ _ _); refine x_binV rfl ?_
  | (with_reducible show wPopD _ _ _ _); refine x_popD rfl ?_
  | (with_reducible show wCatV _ _ _ _); refine x_catV rfl ?_
  | with_reducible refine x_slN2 ?_
  | with_reducible refine x_sortedSets ?_
  | with_reducible refine x_tplL ?_
  | with_reducible refine x_tplT ?_
  | with_reducible refine x_isB ?_
  | with_reducible refine x_r1 ?_
  | with_reducible refine x_r2 ?_
  | (with_reducible refine x_r1e ?h0 ?h1 ?_); (case h0 => omega); (case h1 => omega)
  | with_reducible refine x_iL ?_
  | with_reducible refine x_iT ?_
  | with_reducible refine x_iS ?_
  | with_reducible refine x_iE ?_
  | with_reducible refine x_iEe ?_
  | with_reducible refine x_yes ?_
  | with_reducible refine x_for ?_
  | (with_reducible show wLot _ [D.int _] _); (refine' x_lot (by assumption) ?h1 ?h2 ?h3 ?_); (case h1 => omega); (case h2 => first | decide | omega); (case h3 => first | decide | omega)
  | (with_reducible show ∃ o, _ = some (some (Sl.own o)) ∧ _); refine x_exO rfl ?_
  | with_reducible refine x_exo ?_
  | with_reducible refine x_ret ?_
  | with_reducible refine x_set ?_
  | with_reducible refine x_fin ?_
  | with_reducible refine x_fino ?_
  | (with_reducible refine x_and (p := _ < List.length _) ?h ?_); (case h => exact Nat.le_of_ble_eq_true rfl); (try dsimp only [List.set_cons_succ, List.set_cons_zero])
  | with_reducible refine x_next ?_
  | with_reducible refine x_retN ?_
  | with_reducible refine x_drop ?_
  | with_reducible refine x_asg ?_
  | (with_reducible refine x_gtp ?h ?_); (case h => rfl)
  | with_reducible refine x_gcons ?_
  | with_reducible refine x_gnil ?_
  | (with_reducible refine x_gn ?h ?_); (case h => exact Nat.le_of_ble_eq_true rfl); (try dsimp only [List.set_cons_succ, List.set_cons_zero])
  | with_reducible refine x_ifS ?_
  | with_reducible refine x_if ?_
  | with_reducible refine x_itT ?_
  | with_reducible refine x_itF ?_
  | with_reducible refine x_iteN ?_
  | with_reducible refine x_tru ?_
  | with_reducible refine x_tB ?_
  | with_reducible refine x_dtB ?_
  | with_reducible refine x_dtN ?_
  | with_reducible refine x_exb ?_
  | with_reducible refine x_exdb ?_
  | with_reducible refine x_tand ?_
  | with_reducible refine x_tor ?_
  | with_reducible refine x_tnot ?_
  | with_reducible refine x_and2 ?_
  | with_reducible refine x_or2 ?_
  | with_reducible refine x_not2 ?_
  | with_reducible refine x_chain ?_
  | with_reducible refine x_sub ?_
  | with_reducible refine x_addI ?_
  | (with_reducible refine x_addS ?h ?_); (case h => walk_at "sz")
  | (with_reducible refine x_addL ?h ?_); (case h => walk_at "sz")
  | (with_reducible refine x_addT ?h ?_); (case h => walk_at "sz")
  | with_reducible refine x_lt ?_
  | with_reducible refine x_le ?_
  | with_reducible refine x_gt ?_
  | with_reducible refine x_ge ?_
  | with_reducible refine x_ltS ?_
  | with_reducible refine x_eqI ?_
  | with_reducible refine x_neI ?_
  | with_reducible refine x_allSg ?_
  | with_reducible refine x_m0 ?_
  | with_reducible refine x_lstT ?_
  | with_reducible refine x_lstL ?_
  | with_reducible refine x_strB ?_
  | with_reducible refine x_strN ?_
  | with_reducible refine x_strS ?_
  | with_reducible refine x_isT ?_
  | with_reducible refine x_isI ?_
  | with_reducible refine x_neg ?_
  | with_reducible refine x_un ?_
  | (with_reducible refine x_pow ?h ?_); (case h => exact ⟨by decide, by decide +kernel⟩)
  | (with_reducible refine x_mod ?h ?_); (case h => first | decide | omega)
  | (with_reducible refine x_mul ?h ?_); (case h => exact mul_ok (by first | decide | omega) (by first | decide | omega))
  | (with_reducible refine x_div ?h ?_); (case h => exact div_ok (by first | decide | omega) (by first | decide | omega))
  | with_reducible refine x_ipA ?_
  | (with_reducible show wAugL _ _ _ _ _ _); refine x_augL rfl ?_
  | (with_reducible show wAug _ _ _ _ _); refine x_aug rfl ?_
  | (with_reducible show ∃ k' ds d, Sl.f (D.int _) = Sl.f (D.int k') ∧ _); refine x_augL1 rfl (by decide) rfl ?_
  | (with_reducible show ∃ k' j ds, Sl.f (D.int _) = Sl.f (D.int k') ∧ _ = some (some (Sl.own (O.lst ds))) ∧ ixN _ k' = some j ∧ _); refine x_setL1 rfl rfl ?_; (try dsimp only [List.set_cons_succ, List.set_cons_zero])
  | (with_reducible show ∃ ds j, _ = some (some (Sl.own (O.lst ds))) ∧ ixN _ _ = some j ∧ _); refine x_augL2 rfl rfl ?_; (try dsimp only [List.set_cons_succ, List.set_cons_zero])
  | (with_reducible show gSetL _ _ _ _ _); refine x_setL rfl ?_
  | (with_reducible show dIx (D.lst _) (D.int _) _); refine x_ixL rfl ?_
  | (with_reducible show dIx (D.tup _) (D.int _) _); refine x_ixT rfl ?_
  | with_reducible refine x_cb ?_
  | (with_reducible show wCB1 _ _ _ _); refine x_cb1 rfl rfl ?_
  | with_reducible refine x_fm ?_
  | with_reducible refine x_exl ?_
  | with_reducible refine x_ext ?_
  | with_reducible refine x_exs ?_
  | with_reducible refine x_exi ?_
  | with_reducible refine x_sl ?_
  | with_reducible refine x_slN ?_
  | with_reducible refine x_slS ?_
  | with_reducible refine x_frz ?_
  | with_reducible refine x_frL ?_
  | with_reducible refine x_revT ?_
  | with_reducible refine x_revL ?_
  | with_reducible refine x_splitO ?_
  | (with_reducible show wSlO _ _ _ _ _); refine x_slO rfl ?_
  | (with_reducible show ∃ ds2, _ = some (some (Sl.own (O.lst ds2))) ∧ _); refine x_exOl rfl ?_
  | with_reducible refine x_dictO ?_
  | with_reducible refine x_psC ?_
  | with_reducible refine x_psN ?_
  | with_reducible refine x_get ?_
  | (with_reducible show gSetSl _ _ _ _ _ _); refine x_setSl rfl ?_
  | with_reducible refine x_split ?_
  | with_reducible refine x_isN1 ?_
  | with_reducible refine x_isN0 rfl ?_
  | with_reducible refine x_iZ ?_
  | with_reducible refine x_zT ?_
  | with_reducible refine x_zL ?_
  | with_reducible refine x_stp ?_
  | with_reducible refine x_js ?_
  | with_reducible refine x_jsC ?_
  | with_reducible refine x_jsN ?_
  | with_reducible refine x_fmt ?_
  | with_reducible refine x_callFX ?_
  | (with_reducible refine x_glp ?h ?_); (case h => rfl)
  | with_reducible refine x_raiseR ?_
  | with_reducible refine x_row ?_
  | with_reducible refine x_lenL ?_
  | with_reducible refine x_lenT ?_
  | with_reducible refine x_lenD ?_
  | (with_reducible refine x_lenS ?h ?_); (case h => walk_at "sz")
  | with_reducible refine x_max ?_
  | with_reducible refine x_min ?_
  | with_reducible refine x_intI ?_
  | with_reducible refine x_intB ?_
  | (with_reducible refine x_isInt ?h ?_); (case h => first | assumption | exact part_ty (by assumption) | (intro _ hh; cases hh; done))
  | (with_reducible refine x_isBl ?h ?_); (case h => first | assumption | exact part_ty (by assumption) | (intro _ hh; cases hh; done))
  | (with_reducible refine x_isStr ?h ?_); (case h => first | assumption | exact part_ty (by assumption) | (intro _ hh; cases hh; done))
  | (with_reducible refine x_isTup ?h ?_); (case h => first | assumption | exact part_ty (by assumption) | (intro _ hh; cases hh; done))
  | (with_reducible refine x_isLst ?h ?_); (case h => first | assumption | exact part_ty (by assumption) | (intro _ hh; cases hh; done))
  | (with_reducible refine x_isDic ?h ?_); (case h => first | assumption | exact part_ty (by assumption) | (intro _ hh; cases hh; done))
  | (with_reducible refine x_itTe ?e ?_); (case e => rfl)
  | (with_reducible refine x_itFe ?e ?_); (case e => rfl)
  | with_reducible refine x_dnewO ?_
  | with_reducible refine x_dput ?_
  | with_reducible refine x_dix ?_
  | with_reducible refine x_sortedD ?_
  | with_reducible refine x_star ?_
  | with_reducible refine x_starT ?_
  | with_reducible refine x_frzD ?_
  | with_reducible refine x_sw ?_
  | with_reducible refine x_cnt ?_
  | with_reducible refine x_waC ?_
  | with_reducible refine x_waN ?_
  | with_reducible refine x_lenDD ?_
  | with_reducible refine x_allX ?_
  | (with_reducible show wFz _ _ _ _); refine x_fz rfl ?_
  | (with_reducible show wFzS _ _ _ _); refine x_fzS rfl ?_
  | (with_reducible show wFzO _ _ _ _); refine x_fzO rfl ?_
  | (with_reducible show wiK _ _ _); refine x_iK rfl ?_
  | (with_reducible show wiIt _ _ _); refine x_iIt rfl ?_
  | with_reducible refine x_iE1 ?_
  | with_reducible refine x_forR ?_
  | (with_reducible show wDIxV _ _ _ _); refine x_dixV rfl (cd_dicO _) ?_
  | (with_reducible show wDPop _ _ _ _); refine x_dpop rfl ?_
  | with_reducible refine x_pickO ?_
  | (with_reducible show wExt _ _ _ _); refine x_extO rfl ?_
  | with_reducible refine x_sortedR ?_
  | with_reducible refine x_sortedL ?_
  | with_reducible refine x_ixSt ?_
  | (with_reducible show wiVal _ _ _); refine x_iVal rfl ?_
  | with_reducible refine x_dictP ?_
  | with_reducible refine x_dictZip ?_
  | with_reducible refine x_revS ?_
  | with_reducible refine x_par ?_
  | (with_reducible show wIsiV _ _ _ _ _); refine x_isiV rfl ?_
  | ((with_reducible show _ ∧ _); refine And.intro (Nat.le_of_ble_eq_true rfl) ?_))
local macro_rules | `(tactic| walk_at "x") => `(tactic| repeat (walk_at "x1"))

section
variable {P : Program} {w : World} {K : PySem.W.Frag} {mg : Str → Option Value} {base : Heap} {tabs : List Addr}
def wNext' : WFn := fun ds Q => ∃ (oo : Str) (ts : List Ti) (xs : List Wi) (cs : Case), ds = [trustD oo ts xs, pairsD cs] ∧ TrOk oo ts xs ∧ CsOk cs ∧ Q (.f (strO (nextV oo xs cs)))
theorem mono__law_next : MonoF wNext' := fun ds Q Q' i ⟨oo, ts, xs, cs, h1, h2, h3, q⟩ => ⟨oo, ts, xs, cs, h1, h2, h3, i _ q⟩
theorem ok_next (T : Txt K mg) (A : At K mg "_law_next" s__law_next ["trust", "case"]) : Cal P w K mg base 1 "_law_next" (spW K tabs (liftF wNext')) := by
  refine A.of fun f fd F => fx_fnF F sc__law_next (fun ds Q ⟨_, _, _, _, h, _⟩ => by rw [h]; rfl) fun cdv A outer s H E TT P0 σ0 hcd hr => ⟨_, (gss_cons (gs_lcFR (i := 2) (own := [("pair", 3)]) (t := .name 3) rfl sc__law_next.nd rfl rfl (sw_true rfl rfl rfl (by decide +kernel)) (gi_list (GE.of_pure (gp_var (pv 1)))) (blkOk_by (own := [("pair", 3)]) (N := ["trust", "case", "settled", "pair", "name", "wish"]) (sc := defScope s__law_next) (by decide +kernel)) (fun _ _ _ _ _ => (pg_name (i := 3) sc__law_next.nd rfl (Or.inl rfl))) (fun _ _ _ _ _ => (GE.of_pure (gp_ix ixx (gp_var (pv 3)) gp_int (fun _ _ => rfl)))) (by decide) (mem1 rfl) (mem1 (Nat.le_of_ble_eq_true rfl)))
      (gss_cons (gs_for PassesOwn.never rfl (gi_list (ge_op opx_add (ge_frz (ge_lcR (own := [("wish", 5)]) (t := .name 5) rfl sc__law_next.nd (gi_tup (GE.of_pure (gp_ix ixx (gp_var (pv 0)) gp_int (fun _ _ => rfl)))) (blkOk_by (own := [("wish", 5)]) (N := ["trust", "case", "settled", "pair", "name", "wish"]) (sc := defScope s__law_next) (by decide +kernel)) (fun _ _ _ _ _ => (pg_name (i := 5) sc__law_next.nd rfl (Or.inl rfl))) (fun _ _ _ _ _ => (GE.of_pure (gp_ix ixx (gp_var (pv 5)) gp_int (fun _ _ => rfl)))) (by decide) (mem1 rfl) (mem1 (Nat.le_of_ble_eq_true rfl)))) (ge_frz (ge_lcR (own := [("pair", 3)]) (t := .name 3) rfl sc__law_next.nd (gi_list (GE.of_pure (gp_var (pv 1)))) (blkOk_by (own := [("pair", 3)]) (N := ["trust", "case", "settled", "pair", "name", "wish"]) (sc := defScope s__law_next) (by decide +kernel)) (fun _ _ _ _ _ => (pg_name (i := 3) sc__law_next.nd rfl (Or.inl rfl))) (fun _ _ _ _ _ => (GE.of_pure (gp_ix ixx (gp_var (pv 3)) gp_int (fun _ _ => rfl)))) (by decide) (mem1 rfl) (mem1 (Nat.le_of_ble_eq_true rfl)))))) (gg_name (pg_name (i := 4) sc__law_next.nd rfl (Or.inl rfl)) rfl)
      (gss_one (gs_if (GW.gt (gw_and (gt_cmpP (opx_ne hr.units) (gp_var (pv 4)) (gp_ix ixx (gp_var (pv 0)) gp_int (fun _ _ => rfl)) (nomark _)) (gw_and1 (gt_cmpP (opx_nin hr.u65) (gp_var (pv 4)) (gp_var (pv 2)) (by rfl)))))
      (gss_one (gs_ret (GE.of_pure (gp_var (pv 4)))))
      gss_nil)))
      (gss_one (gs_ret (GE.of_pure gp_non))))), fun ds Q ⟨oo, ts, xs, cs, e, tr, ok, q⟩ => ?_⟩
  subst e
  have hx6 := tr.x6
  have hcl := ok.len
  refine x_start (e := [some (.f (.tup [.str oo, .tup (ts.map Ti.d), .tup (xs.map Wi.d)])), some (.f (.lst (cs.map fun p => .tup [.str p.1, .str p.2]))), none, none, none, none]) rfl ?_
  walk_at "x"
  refine ⟨by rw [List.length_map]; omega, fun i acc e => acc = ((cs.take i).map (·.1)).map D.str ∧ ∃ x3, e = [some (.f (.tup [.str oo, .tup (ts.map Ti.d), .tup (xs.map Wi.d)])), some (.f (.lst (cs.map fun p => .tup [.str p.1, .str p.2]))), none, x3, none, none], ⟨rfl, _, rfl⟩, ?_, ?_⟩
  · rintro i d acc e hd ⟨rfl, x3, rfl⟩
    rw [List.getElem?_map] at hd
    obtain ⟨p, hp, rfl⟩ := Option.map_eq_some_iff.mp hd
    refine ⟨_, rfl, ?_⟩
    dsimp only [List.map_cons, List.map_nil, wipeE, setE, Tgt.js, List.set_cons_zero, List.set_cons_succ]
    walk_at "x"
    exact ⟨by rw [take_snoc hp, List.map_append, List.map_append]; rfl, _, rfl⟩
  rintro acc e ⟨rfl, x3, rfl⟩
  rw [List.length_map, List.take_length]
  try dsimp only [List.map_cons, List.map_nil, wipeE, List.set_cons_zero, List.set_cons_succ]
  walk_at "x"
  refine ⟨by rw [List.length_map]; omega, fun i acc e => acc = ((xs.take i).map (·.a)).map D.str ∧ ∃ x3 x5, e = [some (.f (.tup [.str oo, .tup (ts.map Ti.d), .tup (xs.map Wi.d)])), some (.f (.lst (cs.map fun p => .tup [.str p.1, .str p.2]))), some (.f (.lst ((cs.map (·.1)).map D.str))), x3, none, x5], ⟨rfl, _, _, rfl⟩, ?_, ?_⟩
  · rintro i d acc e hd ⟨rfl, x3, x5, rfl⟩
    rw [List.getElem?_map] at hd
    obtain ⟨p, hp, rfl⟩ := Option.map_eq_some_iff.mp hd
    refine ⟨_, rfl, ?_⟩
    dsimp only [List.map_cons, List.map_nil, wipeE, setE, Tgt.js, List.set_cons_zero, List.set_cons_succ]
    unfold Wi.d
    walk_at "x"
    exact ⟨by rw [take_snoc hp, List.map_append, List.map_append]; rfl, _, _, rfl⟩
  rintro acc e ⟨rfl, x3, x5, rfl⟩
  rw [List.length_map, List.take_length]
  try dsimp only [List.map_cons, List.map_nil, wipeE, List.set_cons_zero, List.set_cons_succ]
  walk_at "x"
  refine ⟨by rw [List.length_map]; omega, fun i acc e => acc = ((cs.take i).map (·.2)).map D.str ∧ ∃ x3 x5, e = [some (.f (.tup [.str oo, .tup (ts.map Ti.d), .tup (xs.map Wi.d)])), some (.f (.lst (cs.map fun p => .tup [.str p.1, .str p.2]))), some (.f (.lst ((cs.map (·.1)).map D.str))), x3, none, x5], ⟨rfl, _, _, rfl⟩, ?_, ?_⟩
  · rintro i d acc e hd ⟨rfl, x3, x5, rfl⟩
    rw [List.getElem?_map] at hd
    obtain ⟨p, hp, rfl⟩ := Option.map_eq_some_iff.mp hd
    refine ⟨_, rfl, ?_⟩
    dsimp only [List.map_cons, List.map_nil, wipeE, setE, Tgt.js, List.set_cons_zero, List.set_cons_succ]
    walk_at "x"
    exact ⟨by rw [take_snoc hp, List.map_append, List.map_append]; rfl, _, _, rfl⟩
  rintro acc e ⟨rfl, x3, x5, rfl⟩
  rw [List.length_map, List.take_length]
  try dsimp only [List.map_cons, List.map_nil, wipeE, List.set_cons_zero, List.set_cons_succ]
  walk_at "x"
  rw [← List.map_append]
  have hall : ∀ y ∈ xs.map (·.a) ++ cs.map (·.2), PyData.strOk y = true := fun y hy => name_cp (next_names tr ok y hy)
  have nv : nextV oo xs cs = (xs.map (·.a) ++ cs.map (·.2)).find? (fun y => (y != oo) && !(cs.map (·.1)).contains y) := rfl
  rw [nv] at q
  have kok : okPy (.lst ((cs.map (·.1)).map D.str)) = true := okPy_strs fun y hy => by
    obtain ⟨p, hp, rfl⟩ := List.mem_map.mp hy
    exact name_cp (ok.a p hp)
  generalize xs.map (·.a) ++ cs.map (·.2) = all at hall q
  refine ⟨fun i e => (∀ j z, j < i → all[j]? = some z → ((z != oo) && !(cs.map (·.1)).contains z) = false) ∧ ∃ x3 x4 x5, e = [some (.f (.tup [.str oo, .tup (ts.map Ti.d), .tup (xs.map Wi.d)])), some (.f (.lst (cs.map fun p => .tup [.str p.1, .str p.2]))), some (.f (.lst ((cs.map (·.1)).map D.str))), x3, x4, x5], ⟨fun j y h => absurd h (Nat.not_lt_zero _), _, _, _, rfl⟩, ?_, ?_⟩
  · rintro i d e hd ⟨hj, x3, x4, x5, rfl⟩
    obtain ⟨y, hy, rfl⟩ := at_map hd
    have ym := List.mem_of_getElem? hy
    have up : ((y != oo) && !(cs.map (·.1)).contains y) = false → ∀ j z, j < i + 1 → all[j]? = some z → ((z != oo) && !(cs.map (·.1)).contains z) = false := fun h j z hj2 hz => by
      rcases Nat.lt_or_ge j i with h' | h'
      · exact hj j z h' hz
      · rw [show j = i by omega, hy] at hz
        cases hz
        exact h
    walk_at "x"
    refine x_neD (okPy_str (hall y ym)) (okPy_str (name_cp tr.hoo)) ?_
    rw [eq_strs]
    cases hc : y == oo with
    | true =>
      walk_at "x"
      exact ⟨up (by rw [show (y != oo) = !(y == oo) from rfl, hc]; rfl), _, _, _, rfl⟩
    | false =>
    walk_at "x"
    refine x_ninL (okPy_str (hall y ym)) kok ?_
    rw [mem_strs]
    cases hm : (cs.map (·.1)).contains y with
    | true =>
      walk_at "x"
      exact ⟨up (by rw [hm]; simp), _, _, _, rfl⟩
    | false =>
      walk_at "x"
      rw [find_up (i := i) hj hy (by rw [show (y != oo) = !(y == oo) from rfl, hc, hm]; rfl)] at q
      exact q
  rintro e ⟨hj, x3, x4, x5, rfl⟩
  rw [List.length_map] at hj
  walk_at "x"
  rw [find_no hj] at q
  exact q
def wTied : WFn := fun ds Q => ∃ (oo : Str) (ts : List Ti) (xs : List Wi) (a : Str), ds = [trustD oo ts xs, .str a] ∧ TrOk oo ts xs ∧ PyData.strOk a = true ∧ ∀ ys : List Str, IsTied ts a ys → Q (.f (.lst (ys.map D.str)))
theorem mono__law_tied : MonoF wTied := fun ds Q Q' i ⟨oo, ts, xs, cs, h1, h2, h3, q⟩ => ⟨oo, ts, xs, cs, h1, h2, h3, fun y h => i _ (q y h)⟩
theorem ok_tied (T : Txt K mg) (A : At K mg "_law_tied" s__law_tied ["trust", "actor"]) : Cal P w K mg base 1 "_law_tied" (spW K tabs (liftF wTied)) := by
  refine A.of fun f fd F => fx_fnF F sc__law_tied (fun ds Q ⟨_, _, _, _, h, _⟩ => by rw [h]; rfl) fun cdv A outer s H E TT P0 σ0 hcd hr => ⟨_, (gss_one (gs_ret (ge_sortedSets rfl (by rfl) T.z_sorted (by rfl) T.z_set (ge_frz (ge_lcR1 (own := [("tie", 2)]) (t := .name 2) rfl sc__law_tied.nd (gi_tup (GE.of_pure (gp_ix ixx (gp_var (pv 0)) gp_int (fun _ _ => rfl)))) (blkOk_by (own := [("tie", 2)]) (N := ["trust", "actor", "tie"]) (sc := defScope s__law_tied) (by decide +kernel)) (fun _ _ _ _ _ => (pg_name (i := 2) sc__law_tied.nd rfl (Or.inl rfl))) (fun _ _ _ _ _ => (gt_cmpP (opx_eq hr.units) (gp_ix ixx (gp_var (pv 2)) gp_int (fun _ _ => rfl)) (gp_var (pv 1)) (nomark _))) (fun _ _ _ _ _ => (GE.of_pure (gp_ix ixx (gp_var (pv 2)) gp_int (fun _ _ => rfl)))) (by decide) (mem1 rfl) (mem1 (Nat.le_of_ble_eq_true rfl))))))), fun ds Q ⟨oo, ts, xs, a, e, tr, ha, q⟩ => ?_⟩
  subst e
  have htl := tr.tl
  refine x_start (e := [some (.f (.tup [.str oo, .tup (ts.map Ti.d), .tup (xs.map Wi.d)])), some (.f (.str a)), none]) rfl ?_
  walk_at "x"
  refine ⟨by rw [List.length_map]; omega, fun i acc e => acc = (((ts.take i).filter (tiedT a)).map (·.a)).map D.str ∧ ∃ x2, e = [some (.f (.tup [.str oo, .tup (ts.map Ti.d), .tup (xs.map Wi.d)])), some (.f (.str a)), x2], ⟨rfl, _, rfl⟩, ?_, ?_⟩
  · rintro i d acc e hd ⟨rfl, x2, rfl⟩
    rw [List.getElem?_map] at hd
    obtain ⟨t, ht, rfl⟩ := Option.map_eq_some_iff.mp hd
    have tok := tr.hts t (List.mem_of_getElem? ht)
    refine ⟨_, rfl, ?_⟩
    dsimp only [List.map_cons, List.map_nil, wipeE, setE, Tgt.js, List.set_cons_zero, List.set_cons_succ]
    rw [show t.d = .tup [.str t.a, .str t.b, .int t.s, .int t.u] from rfl]
    walk_at "x"
    refine x_eqD (okPy_str (name_cp tok.b)) (okPy_str ha) ?_
    rw [eq_strs]
    cases hc : t.b == a with
    | true =>
      walk_at "x"
      exact ⟨by rw [take_snoc ht, List.filter_append, List.filter_cons_of_pos (show tiedT a t = true from hc), List.filter_nil, List.map_append, List.map_append]; rfl, _, rfl⟩
    | false =>
      walk_at "x"
      exact ⟨by rw [take_snoc ht, List.filter_append, List.filter_cons_of_neg (by rw [show tiedT a t = false from hc]; decide), List.filter_nil, List.append_nil], _, rfl⟩
  rintro acc e ⟨rfl, x2, rfl⟩
  rw [List.length_map, List.take_length]
  try dsimp only [List.map_cons, List.map_nil, wipeE, List.set_cons_zero, List.set_cons_succ]
  walk_at "x"
  have hle : (((ts.filter (tiedT a)).map (·.a))).length ≤ 20 := by rw [List.length_map]; exact Nat.le_trans (List.length_filter_le ..) htl
  refine ⟨(ts.filter (tiedT a)).map (·.a), rfl, Nat.lt_of_le_of_lt (dst_le fun _ h => h) (by omega), by omega, fun ys n2 s2 mm => ?_⟩
  walk_at "x"
  exact q ys (tied_of n2 s2 mm)
theorem time_tie {ts : List Ti} {b : List Wi} {a g : Str} {s u : Int} (hs : IsMin s b) (hu : IsMax u b) : ((ts.filter fun t => (t.a == g) && (t.b == a)).any fun t => bearB t b) = tieV ts ⟨g, a, .non, s, u, 0⟩ := by
  have e : ∀ t : Ti, bearB t b = inT ⟨g, a, .non, s, u, 0⟩ t := fun t => by
    rw [Bool.eq_iff_iff]
    unfold bearB inT
    rw [List.all_eq_true, Bool.and_eq_true, decide_eq_true_eq, decide_eq_true_eq]
    constructor
    · intro h
      obtain ⟨x, hx, e1⟩ := List.mem_map.mp hs.1
      obtain ⟨y, hy, e2⟩ := List.mem_map.mp hu.1
      have h1 := h x hx
      have h2 := h y hy
      rw [Bool.and_eq_true, decide_eq_true_eq, decide_eq_true_eq] at h1 h2
      exact ⟨by rw [← e1]; exact h1.1, by rw [← e2]; exact h2.2⟩
    · rintro ⟨h1, h2⟩ x hx
      rw [Bool.and_eq_true, decide_eq_true_eq, decide_eq_true_eq]
      exact ⟨Int.le_trans h1 (hs.2 x hx), Int.le_trans (hu.2 x hx) h2⟩
  unfold tieV
  rw [show (fun t => bearB t b) = inT ⟨g, a, .non, s, u, 0⟩ from funext e]
  rfl
def wLate : WFn := fun ds Q => ∃ (oo : Str) (ts : List Ti) (xs : List Wi) (cs : Case) (a g : Str), ds = [trustD oo ts xs, pairsD cs, .str a] ∧ TrOk oo ts xs ∧ CsOk cs ∧ look cs a = some g ∧ (∃ x ∈ xs, Reach cs x.a a) ∧ Q (.f (.bl (timeV ts xs cs a g)))
theorem mono__law_late : MonoF wLate := fun ds Q Q' i ⟨oo, ts, xs, cs, a, g, h1, h2, h3, h4, h5, q⟩ => ⟨oo, ts, xs, cs, a, g, h1, h2, h3, h4, h5, i _ q⟩
theorem ok_late (T : Txt K mg) (c__law_comes : Cal P w K mg base 1 "_law_comes" (spW K tabs (liftF wComes))) (c__law_lies : Cal P w K mg base 1 "_law_lies" (spW K tabs (liftF wLLies))) (A : At K mg "_law_late" s__law_late ["trust", "case", "actor"]) : Cal P w K mg base 2 "_law_late" (spW K tabs (liftF wLate)) := by
  refine A.of fun f fd F => fx_fnF F sc__law_late (fun ds Q ⟨_, _, _, _, _, _, h, _⟩ => by rw [h]; rfl) fun cdv A outer s H E TT P0 σ0 hcd hr => ⟨_, (gss_cons (gs_setE (i := 3) sc__law_late.nd rfl (Or.inr rfl) (ge_frz (ge_lcR (own := [("pair", 4)]) (t := .name 4) rfl sc__law_late.nd (gi_list (GE.of_pure (gp_var (pv 1)))) (blkOk_by (own := [("pair", 4)]) (N := ["trust", "case", "actor", "settled", "pair", "some", "wish", "first"]) (sc := defScope s__law_late) (by decide +kernel)) (fun _ _ _ _ _ => (pg_name (i := 4) sc__law_late.nd rfl (Or.inl rfl))) (fun _ _ _ _ _ => (GE.of_pure (gp_ix ixx (gp_var (pv 4)) gp_int (fun _ _ => rfl)))) (by decide) (mem1 rfl) (mem1 (Nat.le_of_ble_eq_true rfl)))))
      (gss_cons (gs_lcFR1 (i := 5) (own := [("wish", 6)]) (t := .name 6) rfl sc__law_late.nd rfl rfl (sw_true rfl rfl rfl (by decide +kernel)) (gi_tup (GE.of_pure (gp_ix ixx (gp_var (pv 0)) gp_int (fun _ _ => rfl)))) (blkOk_by (own := [("wish", 6)]) (N := ["trust", "case", "actor", "settled", "pair", "some", "wish", "first"]) (sc := defScope s__law_late) (by decide +kernel)) (fun _ _ _ _ _ => (pg_name (i := 6) sc__law_late.nd rfl (Or.inl rfl))) (fun _ _ _ _ _ => (GW.gt (gw_and (gt_cmpP (opx_in hr.u65) (gp_ix ixx (gp_var (pv 6)) gp_int (fun _ _ => rfl)) (gp_var (pv 3)) (by rfl)) (gw_and1 (gt_tru (ge_callF c__law_comes hr (by first | decide | omega) rfl rfl rfl mono__law_comes (gd_cons (GE.of_pure (gp_var (pv 1))) (gd_cons (GE.of_pure (gp_ix ixx (gp_var (pv 6)) gp_int (fun _ _ => rfl))) (gd_cons (GE.of_pure (gp_var (pv 2))) gd_nil))))))))) (fun _ _ _ _ _ => (GE.of_pure (gp_var (pv 6)))) (by decide) (mem1 rfl) (mem1 (Nat.le_of_ble_eq_true rfl)))
      (gss_cons (gs_setE (i := 7) sc__law_late.nd rfl (Or.inl rfl) (ge_cbB (cax_minL rfl) (by rfl) T.z_min (by decide +kernel) (gd_cons (ge_frz (ge_lcR (own := [("wish", 6)]) (t := .name 6) rfl sc__law_late.nd (gi_list (GE.of_pure (gp_var (pv 5)))) (blkOk_by (own := [("wish", 6)]) (N := ["trust", "case", "actor", "settled", "pair", "some", "wish", "first"]) (sc := defScope s__law_late) (by decide +kernel)) (fun _ _ _ _ _ => (pg_name (i := 6) sc__law_late.nd rfl (Or.inl rfl))) (fun _ _ _ _ _ => (GE.of_pure (gp_ix ixx (gp_var (pv 6)) gp_int (fun _ _ => rfl)))) (by decide) (mem1 rfl) (mem1 (Nat.le_of_ble_eq_true rfl)))) gd_nil)))
      (gss_one (gs_ret (ge_not (ge_callF c__law_lies hr (by first | decide | omega) rfl rfl rfl mono__law_lies (gd_cons (GE.of_pure (gp_var (pv 0))) (gd_cons (ge_dix (u1 hr) (ge_frz (ge_dictP rfl rfl T.z_dict (GE.of_pure (gp_var (pv 1))))) (GE.of_pure (gp_var (pv 2))) (fun _ _ => rfl)) (gd_cons (GE.of_pure (gp_var (pv 2))) (gd_cons (GE.of_pure (gp_var (pv 7))) (gd_cons (ge_cbB (cax_maxL rfl) (by rfl) T.z_max (by decide +kernel) (gd_cons (ge_frz (ge_lcR (own := [("wish", 6)]) (t := .name 6) rfl sc__law_late.nd (gi_list (GE.of_pure (gp_var (pv 5)))) (blkOk_by (own := [("wish", 6)]) (N := ["trust", "case", "actor", "settled", "pair", "some", "wish", "first"]) (sc := defScope s__law_late) (by decide +kernel)) (fun _ _ _ _ _ => (pg_name (i := 6) sc__law_late.nd rfl (Or.inl rfl))) (fun _ _ _ _ _ => (GE.of_pure (gp_ix ixx (gp_var (pv 6)) gp_int (fun _ _ => rfl)))) (by decide) (mem1 rfl) (mem1 (Nat.le_of_ble_eq_true rfl)))) gd_nil)) gd_nil)))))))))))), fun ds Q ⟨oo, ts, xs, cs, a, g, e, tr, ok, lk, root, q⟩ => ?_⟩
  subst e
  have hx6 := tr.x6
  have hcl := ok.len
  obtain ⟨ha, hg⟩ := look_name ok lk
  have kok : okPy (.lst ((cs.map (·.1)).map D.str)) = true := okPy_strs fun y hy => by
    obtain ⟨p, hp, rfl⟩ := List.mem_map.mp hy
    exact name_cp (ok.a p hp)
  refine x_start (e := [some (.f (.tup [.str oo, .tup (ts.map Ti.d), .tup (xs.map Wi.d)])), some (.f (.lst (cs.map fun p => .tup [.str p.1, .str p.2]))), some (.f (.str a)), none, none, none, none, none]) rfl ?_
  walk_at "x"
  refine ⟨by rw [List.length_map]; omega, fun i acc e => acc = ((cs.take i).map (·.1)).map D.str ∧ ∃ x4, e = [some (.f (.tup [.str oo, .tup (ts.map Ti.d), .tup (xs.map Wi.d)])), some (.f (.lst (cs.map fun p => .tup [.str p.1, .str p.2]))), some (.f (.str a)), none, x4, none, none, none], ⟨rfl, _, rfl⟩, ?_, ?_⟩
  · rintro i d acc e hd ⟨rfl, x4, rfl⟩
    rw [List.getElem?_map] at hd
    obtain ⟨p, hp, rfl⟩ := Option.map_eq_some_iff.mp hd
    refine ⟨_, rfl, ?_⟩
    dsimp only [List.map_cons, List.map_nil, wipeE, setE, Tgt.js, List.set_cons_zero, List.set_cons_succ]
    walk_at "x"
    exact ⟨by rw [take_snoc hp, List.map_append, List.map_append]; rfl, _, rfl⟩
  rintro acc e ⟨rfl, x4, rfl⟩
  rw [List.length_map, List.take_length]
  try dsimp only [List.map_cons, List.map_nil, wipeE, List.set_cons_zero, List.set_cons_succ]
  walk_at "x"
  refine ⟨by rw [List.length_map]; omega, fun i acc e => acc = ((xs.take i).filter (borneB cs a)).map Wi.d ∧ ∃ x6, e = [some (.f (.tup [.str oo, .tup (ts.map Ti.d), .tup (xs.map Wi.d)])), some (.f (.lst (cs.map fun p => .tup [.str p.1, .str p.2]))), some (.f (.str a)), some (.f (.lst ((cs.map (·.1)).map D.str))), none, none, x6, none], ⟨rfl, _, rfl⟩, ?_, ?_⟩
  · rintro i d acc e hd ⟨rfl, x6, rfl⟩
    rw [List.getElem?_map] at hd
    obtain ⟨x, hx, rfl⟩ := Option.map_eq_some_iff.mp hd
    have xok := tr.hxs x (List.mem_of_getElem? hx)
    have yes : Reach cs x.a a → ((xs.take i).filter (borneB cs a)).map Wi.d ++ [x.d] = ((xs.take (i + 1)).filter (borneB cs a)).map Wi.d := fun h => by
      rw [take_snoc hx, List.filter_append, List.filter_cons_of_pos (borne_eq.mpr h), List.filter_nil, List.map_append]
      rfl
    have no : ¬ Reach cs x.a a → ((xs.take i).filter (borneB cs a)).map Wi.d = ((xs.take (i + 1)).filter (borneB cs a)).map Wi.d := fun h => by
      rw [take_snoc hx, List.filter_append, List.filter_cons_of_neg (fun k => h (borne_eq.mp k)), List.filter_nil, List.append_nil]
    rw [show x.d = .tup [.str x.a, x.p, .int x.s, .int x.u] from rfl] at yes ⊢
    refine ⟨_, rfl, ?_⟩
    dsimp only [List.map_cons, List.map_nil, wipeE, setE, Tgt.js, List.set_cons_zero, List.set_cons_succ]
    walk_at "x"
    refine x_inL (okPy_str (name_cp xok.a)) kok ?_
    rw [mem_strs]
    cases hc : (cs.map (·.1)).contains x.a with
    | false =>
      walk_at "x"
      refine ⟨no fun k => ?_, _, rfl⟩
      have := reach_key k (look_key lk)
      rw [List.contains_iff_mem.mpr this] at hc
      cases hc
    | true =>
      walk_at "x"
      refine ⟨cs, x.a, a, rfl, ok, name_cp xok.a, ha, fun h => ?_, fun h => ?_⟩
      · walk_at "x"
        exact ⟨yes h, _, rfl⟩
      · walk_at "x"
        exact ⟨no h, _, rfl⟩
  rintro acc e ⟨rfl, x6, rfl⟩
  rw [List.length_map, List.take_length]
  have bl : (xs.filter (borneB cs a)).length ≤ 6 := Nat.le_trans (List.length_filter_le ..) hx6
  have bne : xs.filter (borneB cs a) ≠ [] := fun e => by
    obtain ⟨x, hx, hr⟩ := root
    have := List.mem_filter.mpr ⟨hx, borne_eq.mpr hr⟩
    rw [e] at this
    cases this
  unfold timeV at q
  generalize xs.filter (borneB cs a) = b at bl bne q
  try dsimp only [List.map_cons, List.map_nil, wipeE, List.set_cons_zero, List.set_cons_succ]
  walk_at "x"
  refine ⟨by rw [List.length_map]; omega, fun i acc e => acc = ((b.take i).map (·.s)).map D.int ∧ ∃ x6, e = [some (.f (.tup [.str oo, .tup (ts.map Ti.d), .tup (xs.map Wi.d)])), some (.f (.lst (cs.map fun p => .tup [.str p.1, .str p.2]))), some (.f (.str a)), some (.f (.lst ((cs.map (·.1)).map D.str))), none, some (.f (.lst (b.map Wi.d))), x6, none], ⟨rfl, _, rfl⟩, ?_, ?_⟩
  · rintro i d acc e hd ⟨rfl, x6, rfl⟩
    rw [List.getElem?_map] at hd
    obtain ⟨x, hx, rfl⟩ := Option.map_eq_some_iff.mp hd
    refine ⟨_, rfl, ?_⟩
    dsimp only [List.map_cons, List.map_nil, wipeE, setE, Tgt.js, List.set_cons_zero, List.set_cons_succ]
    unfold Wi.d
    walk_at "x"
    exact ⟨by rw [take_snoc hx, List.map_append, List.map_append]; rfl, _, rfl⟩
  rintro acc e ⟨rfl, x6, rfl⟩
  rw [List.length_map, List.take_length]
  try dsimp only [List.map_cons, List.map_nil, wipeE, List.set_cons_zero, List.set_cons_succ]
  walk_at "x"
  refine ⟨b.map (·.s), rfl, by rw [List.length_map]; exact List.length_pos_iff.mpr bne, fun s s1 s2 => ?_⟩
  have hs : IsMin s b := ⟨s1, fun x hx => s2 _ (List.mem_map.mpr ⟨x, hx, rfl⟩)⟩
  walk_at "x"
  refine ⟨cP cs, by rw [pairs_case], ?_⟩
  rw [merge_case cs ok.nd]
  refine ⟨_, _, rfl, cd_dicO (cP cs), ?_⟩
  walk_at "x"
  refine ⟨cP cs, rfl, ?_⟩
  walk_at "x"
  refine ⟨.inr a, .str g, rfl, by rw [getP_case, lk]; rfl, ?_⟩
  walk_at "x"
  refine ⟨by rw [List.length_map]; omega, fun i acc e => acc = ((b.take i).map (·.u)).map D.int ∧ ∃ x6, e = [some (.f (.tup [.str oo, .tup (ts.map Ti.d), .tup (xs.map Wi.d)])), some (.f (.lst (cs.map fun p => .tup [.str p.1, .str p.2]))), some (.f (.str a)), some (.f (.lst ((cs.map (·.1)).map D.str))), none, some (.f (.lst (b.map Wi.d))), x6, some (.f (.int s))], ⟨rfl, _, rfl⟩, ?_, ?_⟩
  · rintro i d acc e hd ⟨rfl, x6, rfl⟩
    rw [List.getElem?_map] at hd
    obtain ⟨x, hx, rfl⟩ := Option.map_eq_some_iff.mp hd
    refine ⟨_, rfl, ?_⟩
    dsimp only [List.map_cons, List.map_nil, wipeE, setE, Tgt.js, List.set_cons_zero, List.set_cons_succ]
    unfold Wi.d
    walk_at "x"
    exact ⟨by rw [take_snoc hx, List.map_append, List.map_append]; rfl, _, rfl⟩
  rintro acc e ⟨rfl, x6, rfl⟩
  rw [List.length_map, List.take_length]
  try dsimp only [List.map_cons, List.map_nil, wipeE, List.set_cons_zero, List.set_cons_succ]
  walk_at "x"
  refine ⟨b.map (·.u), rfl, by rw [List.length_map]; exact List.length_pos_iff.mpr bne, fun u u1 u2 => ?_⟩
  have hu : IsMax u b := ⟨u1, fun x hx => u2 _ (List.mem_map.mpr ⟨x, hx, rfl⟩)⟩
  walk_at "x"
  refine ⟨oo, ts, xs, ⟨g, a, .non, s, u, 0⟩, rfl, tr, hg, ha, ?_⟩
  walk_at "x"
  rw [time_tie hs hu] at q
  exact q

end
end K80

namespace K80
open PySem PySem.Spec PyProof.Rows L2 Lk Evl Fx


local macro_rules | `(tactic| walk_at "sz") => `(tactic| first
  | exact Nat.le_of_ble_eq_true rfl
  | assumption
  | exact small_sz (Nat.le_of_ble_eq_true rfl)
  | (simp only [List.length_cons, List.length_nil, List.length_map, List.length_append]; first | omega | exact small_sz (by omega)))
local macro_rules | `(tactic| walk_at "x1") => `(tactic| first
  | with_reducible refine x_seq ?_
  | (with_reducible show wVar _ _ _); first | refine x_varF rfl ?_ | refine x_varO rfl ?_ | refine x_varV rfl ?_
  | with_reducible refine x_c ?_
  | with_reducible refine x_exf ?_
  | with_reducible refine x_excd ?_
  | (with_reducible show ∃ d1, Sl.cd (Sl.vw _) = some d1 ∧ _); refine x_excV rfl ?_
  | (with_reducible show ∃ d1, Sl.cd (Sl.own _) = some d1 ∧ _); refine x_excO rfl ?_
  | with_reducible refine x_binP ?_
  | with_reducible refine x_bin ?_
  | with_reducible refine x_adC ?_
  | with_reducible refine x_adN ?_
  | with_reducible refine x_lst ?_
  | with_reducible refine x_tup ?_
  | with_reducible refine x_lstO ?_
  | (with_reducible refine x_and (p := _ ≤ sizeLine) ?h ?_); (case h => walk_at "sz")
  | with_reducible refine x_callF ?_
  | with_reducible refine x_callL ?_
  | with_reducible refine x_listO ?_
  | with_reducible refine x_dstar ?_
  | with_reducible refine x_getN ?_
  | with_reducible refine x_ss ?_
  | with_reducible refine x_mulO ?_
  | with_reducible refine x_iZM ?_
  | (with_reducible show wCallU _ _ _ _ _); refine x_callU rfl ?_
  | with_reducible refine x_callV ?_
  | with_reducible refine x_join ?_
  | with_reducible refine x_waD ?_
  | with_reducible refine x_lc ?_
  | with_reducible refine x_lc2 ?_
  | with_reducible refine x_lenSets ?_
  | (with_reducible show wApp _ _ _ _); refine x_app rfl ?_
  | (with_reducible show wBinV _ _ _ _ _); refine x_binV rfl ?_
  | (with_reducible show wPopD _ _ _ _); refine x_popD rfl ?_
  | (with_reducible show wCatV _ _ _ _); refine x_catV rfl ?_
  | with_reducible refine x_slN2 ?_
  | with_reducible refine x_sortedSets ?_
  | with_reducible refine x_tplL ?_
  | with_reducible refine x_tplT ?_
  | with_reducible refine x_isB ?_
  | with_reducible refine x_r1 ?_
  | with_reducible refine x_r2 ?_
  | (with_reducible refine x_r1e ?h0 ?h1 ?_); (case h0 => omega); (case h1 => omega)
  | with_reducible refine x_iL ?_
  | with_reducible refine x_iT ?_
  | with_reducible refine x_iS ?_
  | with_reducible refine x_iE ?_
  | with_reducible refine x_iEe ?_
  | with_reducible refine x_yes ?_
  | with_reducible refine x_for ?_
  | (with_reducible show wLot _ [D.int _] _); (refine' x_lot (by assumption) ?h1 ?h2 ?h3 ?_); (case h1 => omega); (case h2 => first | decide | omega); (case h3 => first | decide | omega)
  | (with_reducible show ∃ o, _ = some (some (Sl.own o)) ∧ _); refine x_exO rfl ?_
  | with_reducible refine x_exo ?_
  | with_reducible refine x_ret ?_
  | with_reducible refine x_set ?_
  | with_reducible refine x_fin ?_
  | with_reducible refine x_fino ?_
  | (with_reducible refine x_and (p := _ < List.length _) ?h ?_); (case h => exact Nat.le_of_ble_eq_true rfl); (try dsimp only [List.set_cons_succ, List.set_cons_zero])
  | with_reducible refine x_next ?_
  | with_reducible refine x_retN ?_
  | with_reducible refine x_drop ?_
  | with_reducible refine x_asg ?_
  | (with_reducible refine x_gtp ?h ?_); (case h => rfl)
  | with_reducible refine x_gcons ?_
  | with_reducible refine x_gnil ?_
  | (with_reducible refine x_gn ?h ?_); (case h => exact Nat.le_of_ble_eq_true rfl); (try dsimp only [List.set_cons_succ, List.set_cons_zero])
  | with_reducible refine x_ifS ?_
  | with_reducible refine x_if ?_
  | with_reducible refine x_itT ?_
  | with_reducible refine x_itF ?_
  | with_reducible refine x_iteN ?_
  | with_reducible refine x_tru ?_
  | with_reducible refine x_tB ?_
  | with_reducible refine x_dtB ?_
  | with_reducible refine x_dtN ?_
  | with_reducible refine x_exb ?_
  | with_reducible refine x_exdb ?_
  | with_reducible refine x_tand ?_
  | with_reducible refine x_tor ?_
  | with_reducible refine x_tnot ?_
  | with_reducible refine x_and2 ?_
  | with_reducible refine x_or2 ?_
  | with_reducible refine x_not2 ?_
  | with_reducible refine x_chain ?_
  | with_reducible refine x_sub ?_
  | with_reducible refine x_addI ?_
  | (with_reducible refine x_addS ?h ?_); (case h => walk_at "sz")
  | (with_reducible refine x_addL ?h ?_); (case h => walk_at "sz")
  | (with_reducible refine x_addT ?h ?_); (case h => walk_at "sz")
  | with_reducible refine x_lt ?_
  | with_reducible refine x_le ?_
  | with_reducible refine x_gt ?_
  | with_reducible refine x_ge ?_
  | with_reducible refine x_ltS ?_
  | with_reducible refine x_eqI ?_
  | with_reducible refine x_neI ?_
  | with_reducible refine x_allSg ?_
  | with_reducible refine x_m0 ?_
  | with_reducible refine x_lstT ?_
  | with_reducible refine x_lstL ?_
  | with_reducible refine x_strB ?_
  | with_reducible refine x_strN ?_
  | with_reducible refine x_strS ?_
  | with_reducible refine x_isT ?_
  | with_reducible refine x_isI ?_
  | with_reducible refine x_neg ?_
  | with_reducible refine x_un ?_
  | (with_reducible refine x_pow ?h ?_); (case h => exact ⟨by decide, by decide +kernel⟩)
  | (with_reducible refine x_mod ?h ?_); (case h => first | decide | omega)
  | (with_reducible refine x_mul ?h ?_); (case h => exact mul_ok (by first | decide | omega) (by first | decide | omega))
  | (with_reducible refine x_div ?h ?_); (case h => exact div_ok (by first | decide | omega) (by first | decide | omega))
  | with_reducible refine x_ipA ?_
  | (with_reducible show wAugL _ _ _ _ _ _); refine x_augL rfl ?_
  | (with_reducible show wAug _ _ _ _ _); refine x_aug rfl ?_
  | (with_reducible show ∃ k' ds d, Sl.f (D.int _) = Sl.f (D.int k') ∧ _); refine x_augL1 rfl (by decide) rfl ?_
  | (with_reducible show ∃ k' j ds, Sl.f (D.int _) = Sl.f (D.int k') ∧ _ = some (some (Sl.own (O.lst ds))) ∧ ixN _ k' = some j ∧ _); refine x_setL1 rfl rfl ?_; (try dsimp only [List.set_cons_succ, List.set_cons_zero])
  | (with_reducible show ∃ ds j, _ = some (some (Sl.own (O.lst ds))) ∧ ixN _ _ = some j ∧ _); refine x_augL2 rfl rfl ?_; (try dsimp only [List.set_cons_succ, List.set_cons_zero])
  | (with_reducible show gSetL _ _ _ _ _); refine x_setL rfl ?_
  | (with_reducible show dIx (D.lst _) (D.int _) _); refine x_ixL rfl ?_
  | (with_reducible show dIx (D.tup _) (D.int _) _); refine x_ixT rfl ?_
  | with_reducible refine x_cb ?_
  | (with_reducible show wCB1 _ _ _ _); refine x_cb1 rfl rfl ?_
  | with_reducible refine x_fm ?_
  | with_reducible refine x_exl ?_
  | with_reducible refine x_ext ?_
  | with_reducible refine x_exs ?_
  | with_reducible refine x_exi ?_
  | with_reducible refine x_sl ?_
  | with_reducible refine x_slN ?_
  | with_reducible refine x_slS ?_
  | with_reducible refine x_frz ?_
  | with_reducible refine x_frL ?_
  | with_reducible refine x_revT ?_
  | with_reducible refine x_revL ?_
  | with_reducible refine x_splitO ?_
  | (with_reducible show wSlO _ _ _ _ _); refine x_slO rfl ?_
  | (with_reducible show ∃ ds2, _ = some (some (Sl.own (O.lst ds2))) ∧ _); refine x_exOl rfl ?_
  | with_reducible refine x_dictO ?_
  | with_reducible refine x_psC ?_
  | with_reducible refine x_psN ?_
  | with_reducible refine x_get ?_
  | (with_reducible show gSetSl _ _ _ _ _ _); refine x_setSl rfl ?_
  | with_reducible refine x_split ?_
  | with_reducible refine x_isN1 ?_
  | with_reducible refine x_isN0 rfl ?_
  | with_reducible refine x_iZ ?_
  | with_reducible refine x_zT ?_
  | with_reducible refine x_zL ?_
  | with_reducible refine x_stp ?_
  | with_reducible refine x_js ?_
  | with_reducible refine x_jsC ?_
  | with_reducible refine x_jsN ?_
  | with_reducible refine x_fmt ?_
  | with_reducible refine x_callFX ?_
  | (with_reducible refine x_glp ?h ?_); (case h => rfl)
  | with_reducible refine x_raiseR ?_
  | with_reducible refine x_row ?_
  | with_reducible refine x_lenL ?_
  | with_reducible refine x_lenT ?_
  | with_reducible refine x_lenD ?_
  | (with_reducible refine x_lenS ?h ?_); (case h => walk_at "sz")
  | with_reducible refine x_max ?_
  | with_reducible refine x_min ?_
  | with_reducible refine x_intI ?_
  | with_reducible refine x_intB ?_
  | (with_reducible refine x_isInt ?h ?_); (case h => first | assumption | exact part_ty (by assumption) | (intro _ hh; cases hh; done))
  | (with_reducible refine x_isBl ?h ?_); (case h => first | assumption | exact part_ty (by assumption) | (intro _ hh; cases hh; done))
  | (with_reducible refine x_isStr ?h ?_); (case h => first | assumption | exact part_ty (by assumption) | (intro _ hh; cases hh; done))
  | (with_reducible refine x_isTup ?h ?_); (case h => first | assumption | exact part_ty (by assumption) | (intro _ hh; cases hh; done))
  | (with_reducible refine x_isLst ?h ?_); (case h => first | assumption | exact part_ty (by assumption) | (intro _ hh; cases hh; done))
  | (with_reducible refine x_isDic ?h ?_); (case h => first | assumption | exact part_ty (by assumption) | (intro _ hh; cases hh; done))
  | (with_reducible refine x_itTe ?e ?_); (case e => rfl)
  | (with_reducible refine x_itFe ?e ?_); (case e => rfl)
  | with_reducible refine x_dnewO ?_
  | with_reducible refine x_dput ?_
  | with_reducible refine x_dix ?_
  | with_reducible refine x_sortedD ?_
  | with_reducible refine x_star ?_
  | with_reducible refine x_starT ?_
  | with_reducible refine x_frzD ?_
  | with_reducible refine x_sw ?_
  | with_reducible refine x_cnt ?_
  | with_reducible refine x_waC ?_
  | with_reducible refine x_waN ?_
  | with_reducible refine x_lenDD ?_
  | with_reducible refine x_allX ?_
  | (with_reducible show wFz _ _ _ _); refine x_fz rfl ?_
  | (with_reducible show wFzS _ _ _ _); refine x_fzS rfl ?_
  | (with_reducible show wFzO _ _ _ _); refine x_fzO rfl ?_
  | (with_reducible show wiK _ _ _); refine x_iK rfl ?_
  | (with_reducible show wiIt _ _ _); refine x_iIt rfl ?_
  | with_reducible refine x_iE1 ?_
  | with_reducible refine x_forR ?_
  | (with_reducible show wDIxV _ _ _ _); refine x_dixV rfl (cd_dicO _) ?_
  | (with_reducible show wDPop _ _ _ _); refine x_dpop rfl ?_
  | with_reducible refine x_pickO ?_
  | (with_reducible show wExt _ _ _ _); refine x_extO rfl ?_
  | with_reducible refine x_sortedR ?_
  | with_reducible refine x_sortedL ?_
  | with_reducible refine x_ixSt ?_
  | (with_reducible show wiVal _ _ _); refine x_iVal rfl ?_
  | with_reducible refine x_dictP ?_
  | with_reducible refine x_dictZip ?_
  | with_reducible refine x_revS ?_
  | with_reducible refine x_par ?_
  | (with_reducible show wIsiV _ _ _ _ _); refine x_isiV rfl ?_
  | ((with_reducible show _ ∧ _); refine And.intro (Nat.le_of_ble_eq_true rfl) ?_))
local macro_rules | `(tactic| walk_at "x") => `(tactic| repeat (walk_at "x1"))

section
variable {P : Program} {w : World} {K : PySem.W.Frag} {mg : Str → Option Value} {base : Heap} {tabs : List Addr}
def Rooted (xs : List Wi) (cs : Case) : Prop := ∀ y, y ∈ cs.map (·.1) → ∃ x ∈ xs, Reach cs x.a y
theorem look_snoc {cs : Case} {p : Str × Str} {x g : Str} (h : look cs x = some g) : look (cs ++ [p]) x = some g := by
  unfold look at h ⊢
  induction cs with
  | nil => cases h
  | cons q cs ih =>
    obtain ⟨a, b⟩ := q
    rw [List.cons_append, List.lookup_cons]
    rw [List.lookup_cons] at h
    cases e : x == a with
    | true => rw [e] at h; exact h
    | false => rw [e] at h; exact ih h
theorem goes_snoc {cs : Case} {p : Str × Str} : ∀ {n : Nat} {x y : Str}, goes cs n x = some y → goes (cs ++ [p]) n x = some y
  | 0, _, _, h => h
  | n + 1, x, y, h => by
    have h : (goes cs n x).bind (look cs) = some y := h
    show (goes (cs ++ [p]) n x).bind (look (cs ++ [p])) = some y
    cases e : goes cs n x with
    | none => rw [e] at h; cases h
    | some z =>
      rw [e] at h
      rw [goes_snoc e]
      exact look_snoc h
theorem rooted_snoc {oo : Str} {xs : List Wi} {cs : Case} {a g : Str} (nd : (cs.map (·.1)).Nodup) (r : Rooted xs cs) (hn : nextV oo xs cs = some a) : Rooted xs (cs ++ [(a, g)]) := fun y hy => by
  rw [List.map_append, List.mem_append] at hy
  rcases hy with hy | hy
  · obtain ⟨x, hx, n, h⟩ := r y hy
    exact ⟨x, hx, n, goes_snoc h⟩
  · have e : y = a := List.mem_singleton.mp hy
    subst e
    have hm : y ∈ xs.map (·.a) ++ cs.map (·.2) := List.mem_of_find?_eq_some hn
    rcases List.mem_append.mp hm with h | h
    · obtain ⟨x, hx, rfl⟩ := List.mem_map.mp h
      exact ⟨x, hx, 0, rfl⟩
    · obtain ⟨p, hp, rfl⟩ := List.mem_map.mp h
      obtain ⟨x, hx, n, h⟩ := r p.1 (List.mem_map.mpr ⟨p, hp, rfl⟩)
      refine ⟨x, hx, n + 1, ?_⟩
      show (goes (cs ++ [(p.2, g)]) n x.a).bind (look (cs ++ [(p.2, g)])) = some p.2
      rw [goes_snoc h]
      exact look_snoc (look_of nd hp)

/-! ### the law: a tree grown -/
def cost79 : Nat → Nat
  | 0 => 2
  | n + 1 => 2 + 6 * cost79 n
theorem next_room {oo : Str} {ns : List Str} {ts : List Ti} {xs : List Wi} {cs : Case} {a : Str} (w : Wd oo ns ts xs) (c : CsIn oo ns cs) (hn : nextV oo xs cs = some a) : cs.length < ns.length := by
  obtain ⟨an, ak⟩ := next_new hn
  have am : a ∈ ns := by
    have : a ∈ xs.map (·.a) ++ cs.map (·.2) := List.mem_of_find?_eq_some hn
    rcases List.mem_append.mp this with h | h
    · obtain ⟨x, hx, rfl⟩ := List.mem_map.mp h
      exact (List.mem_cons.mp (w.am.2 x hx)).resolve_left an
    · obtain ⟨p, hp, rfl⟩ := List.mem_map.mp h
      exact (List.mem_cons.mp (c.v p hp)).resolve_left an
  have := nodup_le (l := a :: cs.map (·.1)) (m := ns) (List.nodup_cons.mpr ⟨ak, c.ok.nd⟩) fun z hz => by
    rcases List.mem_cons.mp hz with rfl | hz
    · exact am
    · obtain ⟨p, hp, rfl⟩ := List.mem_map.mp hz
      exact c.k p hp
  rw [List.length_cons, List.length_map] at this
  exact this
/-- a bar that is right, however many are too many -/
def Right (oo : Str) (ts : List Ti) (xs : List Wi) (cs : Case) (d : D) : Prop := Leaf79 d ∧ ∀ most, barV oo ts xs most cs d = true
structure Alone (oo : Str) (ts : List Ti) (xs : List Wi) (cs : Case) (al : Str) : Prop where
  x : al ∈ xs.map (·.a)
  o : al ≠ oo
  t : ∀ t ∈ ts, t.b ≠ al
  k : al ∉ cs.map (·.1)
def wGrown : Nat → WUn
  | 0, _, _, _ => False
  | n + 1, o, ds, Q => ∃ (u : Nat) (oo : Str) (ns : List Str) (ts : List Ti) (xs : List Wi) (al : Str) (cs : Case), ds = [trustD oo ts xs, mostD none, pairsD cs] ∧ Wd oo ns ts xs ∧ ns.length ≤ 5 ∧ CsIn oo ns cs ∧ Rooted xs cs ∧ Alone oo ts xs cs al ∧ ns.length ≤ cs.length + n ∧ Un o u ∧ u + cost79 n ≤ 90000 ∧ ∀ d o', IsTr 20 n d → (∀ most, holdsV oo ts xs most n cs d = true) → Un o' (u + cost79 n) → Q (.f d) o'
theorem mono__law_grown : ∀ {n : Nat}, MonoU2 (wGrown n)
  | 0 => fun _ _ _ _ _ h => h
  | n + 1 => fun o ds Q Q' i ⟨u, oo, ns, ts, xs, al, cs, h1, h2, h3, h4, h5, h6, h7, h8, h9, q⟩ => ⟨u, oo, ns, ts, xs, al, cs, h1, h2, h3, h4, h5, h6, h7, h8, h9, fun d o' a b c => i _ _ (q d o' a b c)⟩
theorem alone_next {oo : Str} {ts : List Ti} {xs : List Wi} {cs : Case} {al : Str} (h : Alone oo ts xs cs al) : nextV oo xs cs ≠ none := fun e => by
  have := List.find?_eq_none.mp e al (List.mem_append_left _ h.x)
  have h2 : (cs.map (·.1)).contains al = false := by
    cases hc : (cs.map (·.1)).contains al with
    | false => rfl
    | true => exact absurd (List.contains_iff_mem.mp hc) h.k
  rw [show (al != oo) = !(al == oo) from rfl, beq_false_of_ne h.o, h2] at this
  exact this rfl
theorem right_ring {oo : Str} {ts : List Ti} {xs : List Wi} {cs : Case} {a g : Str} (ha : PyData.strOk a = true) (lk : look cs a = some g) (h : Reach cs g a) : Right oo ts xs cs (.tup [.str "ring", .str a]) := by
  refine ⟨.inr ⟨a, ha, .inl rfl⟩, fun most => ?_⟩
  show (match look cs a with | none => false | some g => ringV cs a) = true
  rw [lk]
  exact (@decide_eq_true_iff _ (_)).mpr ((abv_look lk).mpr h)
theorem right_time {oo : Str} {ts : List Ti} {xs : List Wi} {cs : Case} {a g : Str} (ha : PyData.strOk a = true) (lk : look cs a = some g) (h : timeV ts xs cs a g = true) : Right oo ts xs cs (.tup [.str "time", .str a]) := by
  refine ⟨.inr ⟨a, ha, .inr rfl⟩, fun most => ?_⟩
  show (match look cs a with | none => false | some g => timeV ts xs cs a g) = true
  rw [lk]
  exact h
theorem leaf_mono {m n : Nat} {d : D} (h : Leaf79 d) : IsTr m n d := by
  cases n with
  | zero => exact h
  | succ n => exact .inl h
theorem okPy_leaves {l : List D} (h : ∀ d ∈ l, Leaf79 d) : okPy (.lst l) = true := (fit_lst (n := 1) fun x hx => leaf_fit (h x hx)).ok (by decide)
theorem ok_grown {n k : Nat} (hk : 2 ≤ k) (hn : n ≤ 6) (T : Txt K mg) (c__law_grown : Cal P w K mg base k "_law_grown" (spW K tabs (liftU (wGrown n)))) (c__law_draw : Cal P w K mg base 1 "_law_draw" (spW K tabs (liftU wLot))) (c__law_next : Cal P w K mg base 1 "_law_next" (spW K tabs (liftF wNext')))
    (c__law_late : Cal P w K mg base 2 "_law_late" (spW K tabs (liftF wLate))) (c__law_comes : Cal P w K mg base 1 "_law_comes" (spW K tabs (liftF wComes))) (c__law_tied : Cal P w K mg base 1 "_law_tied" (spW K tabs (liftF wTied))) (A : At K mg "_law_grown" s__law_grown ["pool", "trust", "most", "case"]) :
    Cal P w K mg base (k + 1) "_law_grown" (spW K tabs (liftU (wGrown (n + 1)))) := by
  refine A.of fun f fd F => fx_fnU F sc__law_grown (fun o ds Q ⟨_, _, _, _, _, _, _, h, _⟩ => by rw [h]; rfl) fun cdv A outer s H E TT P0 σ0 hcd hr => ⟨_, (gss_cons (gs_setE (i := 4) sc__law_grown.nd rfl (Or.inr rfl) (ge_callF c__law_next hr (by first | decide | omega) rfl rfl rfl mono__law_next (gd_cons (GE.of_pure (gp_var (pv 1))) (gd_cons (GE.of_pure (gp_var (pv 3))) gd_nil))))
      (gss_cut (gs_setE (i := 5) sc__law_grown.nd rfl (Or.inl rfl) (ge_mulO (ge_lstD (gd_cons (ge_tupD (gd_cons (GE.of_pure gp_str) gd_nil)) gd_nil)) (ge_cbT cax_int (by rfl) T.z_int (by decide +kernel) (gd_cons (ge_and (GE.of_pure (gp_cmp opx_notN (gp_var (pv 4)) gp_non (nomark _))) (ge_and (GE.of_pure (gp_cmp opx_notN (gp_var (pv 2)) gp_non (nomark _))) (ge_one (ge_cmp opx_ge (ge_cbB1 cax_len (by rfl) T.z_len (by decide +kernel) (pv 3)) (GE.of_pure (gp_var (pv 2))) (nomark _))))) gd_nil))))
      (gss_cons (gs_for PassesOwn.never rfl (gi_list (GE.of_pure (gp_var (pv 3)))) (gg_tup (n := 2) rfl (ggs_cons (pg_name (i := 6) sc__law_grown.nd rfl (Or.inl rfl)) rfl (ggs_cons (pg_name (i := 7) sc__law_grown.nd rfl (Or.inl rfl)) rfl ggs_nil)))
      (gss_cons (gs_if (gt_tru (ge_callF c__law_comes hr (by first | decide | omega) rfl rfl rfl mono__law_comes (gd_cons (GE.of_pure (gp_var (pv 3))) (gd_cons (GE.of_pure (gp_var (pv 7))) (gd_cons (GE.of_pure (gp_var (pv 6))) gd_nil)))))
      (gss_one (gs_append (pv 5) (gd_cons (ge_tupD (gd_cons (GE.of_pure gp_str) (gd_cons (GE.of_pure (gp_var (pv 6))) gd_nil))) gd_nil)))
      gss_nil)
      (gss_one (gs_if (gt_tru (ge_callF c__law_late hr (by first | decide | omega) rfl rfl rfl mono__law_late (gd_cons (GE.of_pure (gp_var (pv 1))) (gd_cons (GE.of_pure (gp_var (pv 3))) (gd_cons (GE.of_pure (gp_var (pv 6))) gd_nil)))))
      (gss_one (gs_append (pv 5) (gd_cons (ge_tupD (gd_cons (GE.of_pure gp_str) (gd_cons (GE.of_pure (gp_var (pv 6))) gd_nil))) gd_nil)))
      gss_nil))))
      (gss_cut (gs_if (GW.gt (gw_and (gt_cmpV (opx_ne hr.units) (pv 5) (ge_lstD gd_nil) (nomark _)) (gw_and1 (GW.gt (gw_or (gt_cmpP opx_isN (gp_var (pv 4)) gp_non (nomark _)) (gw_or (gt_cmp (opx_eq hr.units) (GE.of_pure (gp_ix ixx (gp_var (pv 5)) gp_int (fun _ _ => rfl))) (ge_tupD (gd_cons (GE.of_pure gp_str) gd_nil)) (nomark _)) (gw_or1 (gt_cmp opx_gt (ge_callU c__law_draw hr (by first | decide | omega) rfl rfl rfl mono__law_draw (pv 0) (gd_cons (GE.of_pure gp_int) gd_nil)) (GE.of_pure gp_int) (nomark _)))))))))
      (gss_one (gs_ret (ge_ixV ixx (pv 5) (ge_callU c__law_draw hr (by first | decide | omega) rfl rfl rfl mono__law_draw (pv 0) (gd_cons (ge_cbB1 cax_len (by rfl) T.z_len (by decide +kernel) (pv 5)) gd_nil)) (fun _ _ => rfl))))
      gss_nil)
      (gss_cons (gs_if (gt_cmpP opx_isN (gp_var (pv 4)) gp_non (nomark _))
      (gss_one (gs_ret (ge_tupD (gd_cons (GE.of_pure gp_str) (gd_cons (ge_ix ixx (ge_ix ixx (GE.of_pure (gp_var (pv 3))) (ge_un unx_neg (GE.of_pure gp_int)) (fun _ _ => rfl)) (GE.of_pure gp_int) (fun _ _ => rfl)) gd_nil)))))
      gss_nil)
      (gss_cons (gs_lcFR (i := 8) (own := [("giver", 7)]) (t := .name 7) rfl sc__law_grown.nd rfl rfl (sw_true rfl rfl rfl (by decide +kernel)) (gi_list (ge_callF c__law_tied hr (by first | decide | omega) rfl rfl rfl mono__law_tied (gd_cons (GE.of_pure (gp_var (pv 1))) (gd_cons (GE.of_pure (gp_var (pv 4))) gd_nil)))) (blkOk_by (own := [("giver", 7)]) (N := ["pool", "trust", "most", "case", "goal", "bars", "actor", "giver", "rows"]) (sc := defScope s__law_grown) (by decide +kernel)) (fun _ _ _ _ _ => (pg_name (i := 7) sc__law_grown.nd rfl (Or.inl rfl))) (fun _ _ _ _ _ => (ge_tupD (gd_cons (GE.of_pure (gp_var (pv 7))) (gd_cons (ge_callU c__law_grown hr (by first | decide | omega) rfl rfl rfl mono__law_grown (pv 0) (gd_cons (GE.of_pure (gp_var (pv 1))) (gd_cons (GE.of_pure (gp_var (pv 2))) (gd_cons (ge_op opx_add (GE.of_pure (gp_var (pv 3))) (ge_lstD (gd_cons (ge_tupD (gd_cons (GE.of_pure (gp_var (pv 4))) (gd_cons (GE.of_pure (gp_var (pv 7))) gd_nil))) gd_nil))) gd_nil)))) gd_nil)))) (by decide) (mem1 rfl) (mem1 (Nat.le_of_ble_eq_true rfl)))
      (gss_one (gs_ret (ge_tupD (gd_cons (GE.of_pure gp_str) (gd_cons (GE.of_pure (gp_var (pv 4))) (gd_cons (ge_cbT1 cax_tuple (by rfl) T.z_tuple (by decide +kernel) (pv 8)) gd_nil)))))))))))), fun o ds Q ⟨u, oo, ns, ts, xs, al, cs, e, wd, n5, ci, root, alo, hl, un, hu, q⟩ => ?_⟩
  subst e
  have tr := wd.tr
  have ok := ci.ok
  have hcl := ok.len
  refine x_start (e := [some (.own o), some (.f (.tup [.str oo, .tup (ts.map Ti.d), .tup (xs.map Wi.d)])), some (.f (mostD none)), some (.f (.lst (cs.map fun p => .tup [.str p.1, .str p.2]))), none, none, none, none, none]) rfl ?_
  walk_at "x"
  refine ⟨oo, ts, xs, cs, rfl, tr, ok, ?_⟩
  walk_at "x"
  dsimp only [mostD]
  refine x_cut (fun e => e = [some (.own o), some (.f (.tup [.str oo, .tup (ts.map Ti.d), .tup (xs.map Wi.d)])), some (.f .non), some (.f (.lst (cs.map fun p => .tup [.str p.1, .str p.2]))), some (.f (strO (nextV oo xs cs))), some (.own (.lst [])), none, none, none]) ?_ ?_
  · obtain ⟨y, hv⟩ := Option.ne_none_iff_exists'.mp (alone_next alo)
    rw [hv]
    dsimp only [strO]
    walk_at "x"
    exact ⟨by decide, by decide, nofun, Nat.le_of_ble_eq_true rfl, rfl⟩
  rintro e rfl
  have u1 := un
  walk_at "x"
  refine ⟨fun i e => ∃ (l : List D) (x6 x7 : Option Sl), (∀ d ∈ l, Right oo ts xs cs d) ∧ l.length ≤ 1 + 2 * i ∧ e = [some (.own o), some (.f (.tup [.str oo, .tup (ts.map Ti.d), .tup (xs.map Wi.d)])), some (.f .non), some (.f (.lst (cs.map fun p => .tup [.str p.1, .str p.2]))), some (.f (strO (nextV oo xs cs))), some (.own (.lst l)), x6, x7, none], ⟨[], none, none, nofun, Nat.zero_le _, rfl⟩, ?_, ?_⟩
  · rintro i d e hd ⟨l, x6, x7, lf, ll, rfl⟩
    rw [List.getElem?_map] at hd
    obtain ⟨p, hp, rfl⟩ := Option.map_eq_some_iff.mp hd
    have pm := List.mem_of_getElem? hp
    have hi := (List.getElem?_eq_some_iff.mp hp).1
    have pa := name_cp (ok.a p pm)
    have pb := name_cp (ok.b p pm)
    have lk := look_of (x := p.1) (g := p.2) ok.nd pm
    have ls : ∀ {l : List D} {d : D}, (∀ d ∈ l, Right oo ts xs cs d) → Right oo ts xs cs d → ∀ x ∈ l ++ [d], Right oo ts xs cs x := fun h1 h2 x hx => by
      rcases List.mem_append.mp hx with hx | hx
      · exact h1 x hx
      · rw [List.mem_singleton.mp hx]; exact h2
    have rl := fun h => right_ring (oo := oo) (ts := ts) (xs := xs) pa lk h
    have tl := fun h => right_time (oo := oo) (ts := ts) (xs := xs) pa lk h
    have sz : (4000 : Nat) ≤ sizeLine := by rw [sizeLine_eq]; omega
    walk_at "x"
    refine ⟨cs, p.2, p.1, rfl, ok, pb, pa, fun hr1 => ?_, fun _ => ?_⟩
    · walk_at "x"
      refine x_appE rfl (by omega) ?_
      walk_at "x"
      refine ⟨oo, ts, xs, cs, p.1, p.2, rfl, tr, ok, lk, root p.1 (look_key lk), ?_⟩
      cases ht1 : timeV ts xs cs p.1 p.2 with
      | true =>
        walk_at "x"
        refine x_appE rfl (by rw [List.length_append, List.length_singleton]; omega) ?_
        exact ⟨_, _, _, ls (ls lf (rl hr1)) (tl ht1), by rw [List.length_append, List.length_append, List.length_singleton, List.length_singleton]; omega, rfl⟩
      | false =>
        walk_at "x"
        exact ⟨_, _, _, ls lf (rl hr1), by rw [List.length_append, List.length_singleton]; omega, rfl⟩
    · walk_at "x"
      refine ⟨oo, ts, xs, cs, p.1, p.2, rfl, tr, ok, lk, root p.1 (look_key lk), ?_⟩
      cases ht1 : timeV ts xs cs p.1 p.2 with
      | true =>
        walk_at "x"
        refine x_appE rfl (by omega) ?_
        exact ⟨_, _, _, ls lf (tl ht1), by rw [List.length_append, List.length_singleton]; omega, rfl⟩
      | false =>
        walk_at "x"
        exact ⟨_, _, _, lf, by omega, rfl⟩
  rintro e ⟨l, x6, x7, lf, ll, rfl⟩
  rw [List.length_map] at ll
  have c2 : 2 ≤ cost79 n := by cases n <;> (unfold cost79; omega)
  refine x_cut (fun e => ∃ (o' : O), Un o' (u + 1) ∧ e = [some (.own o'), some (.f (.tup [.str oo, .tup (ts.map Ti.d), .tup (xs.map Wi.d)])), some (.f .non), some (.f (.lst (cs.map fun p => .tup [.str p.1, .str p.2]))), some (.f (strO (nextV oo xs cs))), some (.own (.lst l)), x6, x7, none]) ?_ ?_
  · walk_at "x"
    refine ⟨_, _, _, rfl, rfl, rfl, x_neD (okPy_leaves fun d hd => (lf d hd).1) (by decide +kernel) ?_⟩
    rw [ne_nilD]
    cases hem : l.isEmpty with
    | true =>
      walk_at "x"
      exact ⟨o, u1.mono (by omega), rfl⟩
    | false =>
      have lpos : 0 < l.length := by
        cases l with
        | nil => cases hem
        | cons x l => exact Nat.succ_pos _
      walk_at "x"
      cases hv : nextV oo xs cs with
      | none =>
        dsimp only [strO]
        walk_at "x"
        intro c o2 c0 c1 u2
        refine ⟨_, _, _, rfl, rfl, rfl, ?_⟩
        obtain ⟨d, e1, e2⟩ := atI_at (ds := l) c0 c1
        refine x_ixL e1 ?_
        exact ⟨nofun, Nat.le_of_ble_eq_true rfl, o2, rfl, q d o2 (leaf_mono (lf d (List.mem_of_getElem? e2)).1) (fun mm => by rw [leaf_v (lf d (List.mem_of_getElem? e2)).1]; exact (lf d (List.mem_of_getElem? e2)).2 mm) (u2.mono (by omega))⟩
      | some y =>
        dsimp only [strO]
        walk_at "x"
        obtain ⟨d0, e01, e02⟩ := atI_at (ds := l) (Int.le_refl 0) (by omega)
        refine x_ixL e01 ?_
        walk_at "x"
        refine x_eqD ((leaf_fit (lf d0 (List.mem_of_getElem? e02)).1).ok (by decide)) (by decide +kernel) ?_
        cases eqB d0 (.tup [.str "many"]) with
        | true =>
          walk_at "x"
          intro c o2 c0 c1 u2
          refine ⟨_, _, _, rfl, rfl, rfl, ?_⟩
          obtain ⟨d, e1, e2⟩ := atI_at (ds := l) c0 c1
          refine x_ixL e1 ?_
          exact ⟨nofun, Nat.le_of_ble_eq_true rfl, o2, rfl, q d o2 (leaf_mono (lf d (List.mem_of_getElem? e2)).1) (fun mm => by rw [leaf_v (lf d (List.mem_of_getElem? e2)).1]; exact (lf d (List.mem_of_getElem? e2)).2 mm) (u2.mono (by omega))⟩
        | false =>
          walk_at "x"
          intro c3 o3 c30 c31 u3
          walk_at "x"
          refine x_iteD (fun hz => ?_) (fun hz => ?_)
          · walk_at "x"
            intro c o2 c0 c1 u2
            refine ⟨_, _, _, rfl, rfl, rfl, ?_⟩
            obtain ⟨d, e1, e2⟩ := atI_at (ds := l) c0 c1
            refine x_ixL e1 ?_
            exact ⟨nofun, Nat.le_of_ble_eq_true rfl, o2, rfl, q d o2 (leaf_mono (lf d (List.mem_of_getElem? e2)).1) (fun mm => by rw [leaf_v (lf d (List.mem_of_getElem? e2)).1]; exact (lf d (List.mem_of_getElem? e2)).2 mm) (u2.mono (by omega))⟩
          · walk_at "x"
            exact ⟨o3, u3, rfl⟩
  rintro e ⟨o2, u2, rfl⟩
  cases hv : nextV oo xs cs with
  | none => exact absurd hv (alone_next alo)
  | some y =>
    have yn := next_name tr ok hv
    have room := next_room wd ci hv
    cases n with
    | zero => omega
    | succ n =>
    dsimp only [strO]
    walk_at "x"
    refine ⟨oo, ts, xs, y, rfl, tr, name_cp yn, fun ys hy => ?_⟩
    have ymem : ∀ z ∈ ys, (∃ t ∈ ts, t.b = y ∧ t.a = z) := fun z hz => (hy.mem z).mp hz
    have yok : ∀ z ∈ ys, PyData.strOk z = true := fun z hz => by
      obtain ⟨t, ht, _, e⟩ := ymem z hz
      rw [← e]
      exact name_cp (tr.hts t ht).a
    have y6 : ys.length ≤ 6 := by
      have := nodup_le (l := ys) (m := oo :: ns) hy.nd fun z hz => by
        obtain ⟨t, ht, _, e⟩ := ymem z hz
        rw [← e]
        exact (wd.am.1 t ht).1
      rw [List.length_cons] at this
      omega
    have cn : cost79 (n + 1) = 2 + 6 * cost79 n := rfl
    walk_at "x"
    refine ⟨by rw [List.length_map]; omega, fun i acc e => ∃ (o' : O) (rs : List (Str × D)) (x7 : Option Sl), acc = rs.map rwD ∧ rs.map (·.1) = ys.take i ∧ (∀ r ∈ rs, PyData.strOk r.1 = true ∧ IsTr 20 n r.2 ∧ ∀ mm, holdsV oo ts xs mm n (cs ++ [(y, r.1)]) r.2 = true) ∧ Un o' (u + 1 + i * cost79 n) ∧ e = [some (.own o'), some (.f (.tup [.str oo, .tup (ts.map Ti.d), .tup (xs.map Wi.d)])), some (.f .non), some (.f (.lst (cs.map fun p => .tup [.str p.1, .str p.2]))), some (.f (.str y)), some (.own (.lst l)), x6, x7, none], ⟨o2, [], x7, rfl, rfl, nofun, u2.mono (by omega), rfl⟩, ?_, ?_⟩
    · rintro i d acc e hd ⟨o3, rs, x7, rfl, hrs, rok, u3, rfl⟩
      obtain ⟨z, hz, rfl⟩ := at_map hd
      have zm := List.mem_of_getElem? hz
      have hi := (List.getElem?_eq_some_iff.mp hz).1
      have ci2 := csIn_snoc wd ci hv (ymem z zm)
      refine ⟨_, rfl, ?_⟩
      dsimp only [List.map_cons, List.map_nil, wipeE, setE, Tgt.js, List.set_cons_zero, List.set_cons_succ]
      walk_at "x"
      have ep : D.lst ((cs.map fun p => D.tup [.str p.1, .str p.2]) ++ [D.tup [.str y, .str z]]) = pairsD (cs ++ [(y, z)]) := by
        unfold pairsD
        rw [List.map_append]
        rfl
      have mle : (i + 1) * cost79 n ≤ 6 * cost79 n := Nat.mul_le_mul_right _ (by omega)
      have ms : (i + 1) * cost79 n = i * cost79 n + cost79 n := Nat.succ_mul ..
      have alo2 : Alone oo ts xs (cs ++ [(y, z)]) al := ⟨alo.x, alo.o, alo.t, fun hm => by
        rw [List.map_append, List.mem_append] at hm
        rcases hm with hm | hm
        · exact alo.k hm
        · have e : al = y := List.mem_singleton.mp hm
          obtain ⟨t, ht, tb, _⟩ := ymem z zm
          exact alo.t t ht (by rw [tb, e])⟩
      refine ⟨u + 1 + i * cost79 n, oo, ns, ts, xs, al, cs ++ [(y, z)], by rw [ep]; rfl, wd, n5, ci2, rooted_snoc ok.nd root hv, alo2, by rw [List.length_append, List.length_singleton]; omega, u3, by omega, fun d o4 hd hh u4 => ?_⟩
      walk_at "x"
      refine ⟨o4, rs ++ [(z, d)], _, by rw [List.map_append]; rfl, by rw [List.map_append, hrs, take_snoc hz]; rfl, fun r hr => ?_, u4.mono (by omega), rfl⟩
      rcases List.mem_append.mp hr with hr | hr
      · exact rok r hr
      · rw [List.mem_singleton.mp hr]
        exact ⟨yok z zm, hd, hh⟩
    rintro acc e ⟨o3, rs, x7, rfl, hrs, rok, u3, rfl⟩
    rw [List.length_map] at u3 hrs
    try dsimp only [List.map_cons, List.map_nil, wipeE, List.set_cons_zero, List.set_cons_succ]
    walk_at "x"
    have rl : rs.length = ys.length := by
      have := congrArg List.length hrs
      rwa [List.length_map, List.take_length] at this
    have mle : ys.length * cost79 n ≤ 6 * cost79 n := Nat.mul_le_mul_right _ y6
    have nm : rs.map (·.1) = ys := by rw [hrs, List.take_length]
    refine q _ o3 (.inr ⟨y, rs, rfl, name_cp yn, by omega, fun r hr => ⟨(rok r hr).1, (rok r hr).2.1⟩⟩) (fun mm => ?_) (u3.mono (by omega))
    rw [holds_giver, hv, beq_self_eq_true, tiedB_eq hy, nm, beq_self_eq_true, Bool.true_and, Bool.true_and, List.all_eq_true]
    exact fun r hr => (rok r hr).2.2 mm
theorem ok_grown0 (k : Nat) (A : At K mg "_law_grown" s__law_grown ["pool", "trust", "most", "case"]) : Cal P w K mg base (k + 1) "_law_grown" (spW K tabs (liftU (wGrown 0))) := by
  refine A.of fun f fd F => fx_fnU F sc__law_grown (fun o ds Q h => h.elim) fun cdv A outer s H E TT P0 σ0 hcd hr => ⟨fun _ _ => False, ⟨⟨fun pins s σ H D I ⟨_, _, _, _, h⟩ => h.elim⟩, fun _ _ _ _ h => h⟩, fun o ds Q h => h⟩
theorem ok_grownN (T : Txt K mg) (c__law_draw : Cal P w K mg base 1 "_law_draw" (spW K tabs (liftU wLot))) (c__law_next : Cal P w K mg base 1 "_law_next" (spW K tabs (liftF wNext'))) (c__law_late : Cal P w K mg base 2 "_law_late" (spW K tabs (liftF wLate)))
    (c__law_comes : Cal P w K mg base 1 "_law_comes" (spW K tabs (liftF wComes))) (c__law_tied : Cal P w K mg base 1 "_law_tied" (spW K tabs (liftF wTied))) (A : At K mg "_law_grown" s__law_grown ["pool", "trust", "most", "case"]) : ∀ n, n ≤ 7 → Cal P w K mg base (n + 2) "_law_grown" (spW K tabs (liftU (wGrown n)))
  | 0, _ => ok_grown0 1 A
  | n + 1, h => ok_grown (k := n + 2) (by omega) (by omega) T (ok_grownN T c__law_draw c__law_next c__law_late c__law_comes c__law_tied A n (by omega)) c__law_draw c__law_next c__law_late c__law_comes c__law_tied A

end
end K80

namespace K80
open PySem PySem.Spec PyProof.Rows L2 Lk Evl Fx


local macro_rules | `(tactic| walk_at "sz") => `(tactic| first
  | exact Nat.le_of_ble_eq_true rfl
  | assumption
  | exact small_sz (Nat.le_of_ble_eq_true rfl)
  | (simp only [List.length_cons, List.length_nil, List.length_map, List.length_append]; first | omega | exact small_sz (by omega)))
local macro_rules | `(tactic| walk_at "x1") => `(tactic| first
  | with_reducible refine x_seq ?_
  | (with_reducible show wVar _ _ _); first | refine x_varF rfl ?_ | refine x_varO rfl ?_ | refine x_varV rfl ?_
  | with_reducible refine x_c ?_
  | with_reducible refine x_exf ?_
  | with_reducible refine x_excd ?_
  | (with_reducible show ∃ d1, Sl.cd (Sl.vw _) = some d1 ∧ _); refine x_excV rfl ?_
  | (with_reducible show ∃ d1, Sl.cd (Sl.own _) = some d1 ∧ _); refine x_excO rfl ?_
  | with_reducible refine x_binP ?_
  | with_reducible refine x_bin ?_
  | with_reducible refine x_adC ?_
  | with_reducible refine x_adN ?_
  | with_reducible refine x_lst ?_
  | with_reducible refine x_tup ?_
  | with_reducible refine x_lstO ?_
  | (with_reducible refine x_and (p := _ ≤ sizeLine) ?h ?_); (case h => walk_at "sz")
  | with_reducible refine x_callF ?_
  | with_reducible refine x_callL ?_
  | with_reducible refine x_listO ?_
  | with_reducible refine x_dstar ?_
  | with_reducible refine x_getN ?_
  | with_reducible refine x_ss ?_
  | with_reducible refine x_mulO ?_
  | with_reducible refine x_iZM ?_
  | (with_reducible show wCallU _ _ _ _ _); refine x_callU rfl ?_
  | with_reducible refine x_callV ?_
  | with_reducible refine x_join ?_
  | with_reducible refine x_waD ?_
  | with_reducible refine x_lc ?_
  | with_reducible refine x_lc2 ?_
  | with_reducible refine x_lenSets ?_
  | (with_reducible show wApp _ _ _ _); refine x_app rfl ?_
  | (with_reducible show wBinV _ _ _ _ _); refine x_binV rfl ?_
  | (with_reducible show wPopD _ _ _ _); refine x_popD rfl ?_
  | (with_reducible show wCatV _ _ _ _); refine x_catV rfl ?_
  | with_reducible refine x_slN2 ?_
  | with_reducible refine x_sortedSets ?_
  | with_reducible refine x_tplL ?_
  | with_reducible refine x_tplT ?_
  | with_reducible refine x_isB ?_
  | with_reducible refine x_r1 ?_
  | with_reducible refine x_r2 ?_
  | (with_reducible refine x_r1e ?h0 ?h1 ?_); (case h0 => omega); (case h1 => omega)
  | with_reducible refine x_iL ?_
  | with_reducible refine x_iT ?_
  | with_reducible refine x_iS ?_
  | with_reducible refine x_iE ?_
  | with_reducible refine x_iEe ?_
  | with_reducible refine x_yes ?_
  | with_reducible refine x_for ?_
  | (with_reducible show wLot _ [D.int _] _); (refine' x_lot (by assumption) ?h1 ?h2 ?h3 ?_); (case h1 => omega); (case h2 => first | decide | omega); (case h3 => first | decide | omega)
  | (with_reducible show ∃ o, _ = some (some (Sl.own o)) ∧ _); refine x_exO rfl ?_
  | with_reducible refine x_exo ?_
  | with_reducible refine x_ret ?_
  | with_reducible refine x_set ?_
  | with_reducible refine x_fin ?_
  | with_reducible refine x_fino ?_
  | (with_reducible refine x_and (p := _ < List.length _) ?h ?_); (case h => exact Nat.le_of_ble_eq_true rfl); (try dsimp only [List.set_cons_succ, List.set_cons_zero])
  | with_reducible refine x_next ?_
  | with_reducible refine x_retN ?_
  | with_reducible refine x_drop ?_
  | with_reducible refine x_asg ?_
  | (with_reducible refine x_gtp ?h ?_); (case h => rfl)
  | with_reducible refine x_gcons ?_
  | with_reducible refine x_gnil ?_
  | (with_reducible refine x_gn ?h ?_); (case h => exact Nat.le_of_ble_eq_true rfl); (try dsimp only [List.set_cons_succ, List.set_cons_zero])
  | with_reducible refine x_ifS ?_
  | with_reducible refine x_if ?_
  | with_reducible refine x_itT ?_
  | with_reducible refine x_itF ?_
  | with_reducible refine x_iteN ?_
  | with_reducible refine x_tru ?_
  | with_reducible refine x_tB ?_
  | with_reducible refine x_dtB ?_
  | with_reducible refine x_dtN ?_
  | with_reducible refine x_exb ?_
  | with_reducible refine x_exdb ?_
  | with_reducible refine x_tand ?_
  | with_reducible refine x_tor ?_
  | with_reducible refine x_tnot ?_
  | with_reducible refine x_and2 ?_
  | with_reducible refine x_or2 ?_
  | with_reducible refine x_not2 ?_
  | with_reducible refine x_chain ?_
  | with_reducible refine x_sub ?_
  | with_reducible refine x_addI ?_
  | (with_reducible refine x_addS ?h ?_); (case h => walk_at "sz")
  | (with_reducible refine x_addL ?h ?_); (case h => walk_at "sz")
  | (with_reducible refine x_addT ?h ?_); (case h => walk_at "sz")
  | with_reducible refine x_lt ?_
  | with_reducible refine x_le ?_
  | with_reducible refine x_gt ?_
  | with_reducible refine x_ge ?_
  | with_reducible refine x_ltS ?_
  | with_reducible refine x_eqI ?_
  | with_reducible refine x_neI ?_
  | with_reducible refine x_allSg ?_
  | with_reducible refine x_m0 ?_
  | with_reducible refine x_lstT ?_
  | with_reducible refine x_lstL ?_
  | with_reducible refine x_strB ?_
  | with_reducible refine x_strN ?_
  | with_reducible refine x_strS ?_
  | with_reducible refine x_isT ?_
  | with_reducible refine x_isI ?_
  | with_reducible refine x_neg ?_
  | with_reducible refine x_un ?_
  | (with_reducible refine x_pow ?h ?_); (case h => exact ⟨by decide, by decide +kernel⟩)
  | (with_reducible refine x_mod ?h ?_); (case h => first | decide | omega)
  | (with_reducible refine x_mul ?h ?_); (case h => exact mul_ok (by first | decide | omega) (by first | decide | omega))
  | (with_reducible refine x_div ?h ?_); (case h => exact div_ok (by first | decide | omega) (by first | decide | omega))
  | with_reducible refine x_ipA ?_
  | (with_reducible show wAugL _ _ _ _ _ _); refine x_augL rfl ?_
  | (with_reducible show wAug _ _ _ _ _); refine x_aug rfl ?_
  | (with_reducible show ∃ k' ds d, Sl.f (D.int _) = Sl.f (D.int k') ∧ _); refine x_augL1 rfl (by decide) rfl ?_
  | (with_reducible show ∃ k' j ds, Sl.f (D.int _) = Sl.f (D.int k') ∧ _ = some (some (Sl.own (O.lst ds))) ∧ ixN _ k' = some j ∧ _); refine x_setL1 rfl rfl ?_; (try dsimp only [List.set_cons_succ, List.set_cons_zero])
  | (with_reducible show ∃ ds j, _ = some (some (Sl.own (O.lst ds))) ∧ ixN _ _ = some j ∧ _); refine x_augL2 rfl rfl ?_; (try dsimp only [List.set_cons_succ, List.set_cons_zero])
  | (with_reducible show gSetL _ _ _ _ _); refine x_setL rfl ?_
  | (with_reducible show dIx (D.lst _) (D.int _) _); refine x_ixL rfl ?_
  | (with_reducible show dIx (D.tup _) (D.int _) _); refine x_ixT rfl ?_
  | with_reducible refine x_cb ?_
  | (with_reducible show wCB1 _ _ _ _); refine x_cb1 rfl rfl ?_
  | with_reducible refine x_fm ?_
  | with_reducible refine x_exl ?_
  | with_reducible refine x_ext ?_
  | with_reducible refine x_exs ?_
  | with_reducible refine x_exi ?_
  | with_reducible refine x_sl ?_
  | with_reducible refine x_slN ?_
  | with_reducible refine x_slS ?_
  | with_reducible refine x_frz ?_
  | with_reducible refine x_frL ?_
  | with_reducible refine x_revT ?_
  | with_reducible refine x_revL ?_
  | with_reducible refine x_splitO ?_
  | (with_reducible show wSlO _ _ _ _ _); refine x_slO rfl ?_
  | (with_reducible show ∃ ds2, _ = some (some (Sl.own (O.lst ds2))) ∧ _); refine x_exOl rfl ?_
  | with_reducible refine x_dictO ?_
  | with_reducible refine x_psC ?_
  | with_reducible refine x_psN ?_
  | with_reducible refine x_get ?_
  | (with_reducible show gSetSl _ _ _ _ _ _); refine x_setSl rfl ?_
  | with_reducible refine x_split ?_
  | with_reducible refine x_isN1 ?_
  | with_reducible refine x_isN0 rfl ?_
  | with_reducible refine x_iZ ?_
  | with_reducible refine x_zT ?_
  | with_reducible refine x_zL ?_
  | with_reducible refine x_stp ?_
  | with_reducible refine x_js ?_
  | with_reducible refine x_jsC ?_
  | with_reducible refine x_jsN ?_
  | with_reducible refine x_fmt ?_
  | with_reducible refine x_callFX ?_
  | (with_reducible refine x_glp ?h ?_); (case h => rfl)
  | with_reducible refine x_raiseR ?_
  | with_reducible refine x_row ?_
  | with_reducible refine x_lenL ?_
  | with_reducible refine x_lenT ?_
  | with_reducible refine x_lenD ?_
  | (with_reducible refine x_lenS ?h ?_); (case h => walk_at "sz")
  | with_reducible refine x_max ?_
  | with_reducible refine x_min ?_
  | with_reducible refine x_intI ?_
  | with_reducible refine x_intB ?_
  | (with_reducible refine x_isInt ?h ?_); (case h => first | assumption | exact part_ty (by assumption) | (intro _ hh; cases hh; done))
  | (with_reducible refine x_isBl ?h ?_); (case h => first | assumption | exact part_ty (by assumption) | (intro _ hh; cases hh; done))
  | (with_reducible refine x_isStr ?h ?_); (case h => first | assumption | exact part_ty (by assumption) | (intro _ hh; cases hh; done))
  | (with_reducible refine x_isTup ?h ?_); (case h => first | assumption | exact part_ty (by assumption) | (intro _ hh; cases hh; done))
  | (with_reducible refine x_isLst ?h ?_); (case h => first | assumption | exact part_ty (by assumption) | (intro _ hh; cases hh; done))
  | (with_reducible refine x_isDic ?h ?_); (case h => first | assumption | exact part_ty (by assumption) | (intro _ hh; cases hh; done))
  | (with_reducible refine x_itTe ?e ?_); (case e => rfl)
  | (with_reducible refine x_itFe ?e ?_); (case e => rfl)
  | with_reducible refine x_dnewO ?_
  | with_reducible refine x_dput ?_
  | with_reducible refine x_dix ?_
  | with_reducible refine x_sortedD ?_
  | with_reducible refine x_star ?_
  | with_reducible refine x_starT ?_
  | with_reducible refine x_frzD ?_
  | with_reducible refine x_sw ?_
  | with_reducible refine x_cnt ?_
  | with_reducible refine x_waC ?_
  | with_reducible refine x_waN ?_
  | with_reducible refine x_lenDD ?_
  | with_reducible refine x_allX ?_
  | (with_reducible show wFz _ _ _ _); refine x_fz rfl ?_
  | (with_reducible show wFzS _ _ _ _); refine x_fzS rfl ?_
  | (with_reducible show wFzO _ _ _ _); refine x_fzO rfl ?_
  | (with_reducible show wiK _ _ _); refine x_iK rfl ?_
  | (with_reducible show wiIt _ _ _); refine x_iIt rfl ?_
  | with_reducible refine x_iE1 ?_
  | with_reducible refine x_forR ?_
  | (with_reducible show wDIxV _ _ _ _); refine x_dixV rfl (cd_dicO _) ?_
  | (with_reducible show wDPop _ _ _ _); refine x_dpop rfl ?_
  | with_reducible refine x_pickO ?_
  | (with_reducible show wExt _ _ _ _); refine x_extO rfl ?_
  | with_reducible refine x_sortedR ?_
  | with_reducible refine x_sortedL ?_
  | with_reducible refine x_ixSt ?_
  | (with_reducible show wiVal _ _ _); refine x_iVal rfl ?_
  | with_reducible refine x_dictP ?_
  | with_reducible refine x_dictZip ?_
  | with_reducible refine x_revS ?_
  | with_reducible refine x_par ?_
  | (with_reducible show wIsiV _ _ _ _ _); refine x_isiV rfl ?_
  | ((with_reducible show _ ∧ _); refine And.intro (Nat.le_of_ble_eq_true rfl) ?_))
local macro_rules | `(tactic| walk_at "x") => `(tactic| repeat (walk_at "x1"))

section
variable {P : Program} {w : World} {K : PySem.W.Frag} {mg : Str → Option Value} {base : Heap} {tabs : List Addr}
/-! ### the law: what is no tree -/
theorem bF {oo : Str} {ts : List Ti} {xs : List Wi} {n : Nat} {cs : Case} {d : D} (h : isTup d = false) (ny : NoTy d) : Bd oo ts xs n cs d := by
  cases n with
  | zero => exact .inl ⟨h, ny⟩
  | succ n => exact .inl (.inl ⟨h, ny⟩)
theorem b0 {oo : Str} {ts : List Ti} {xs : List Wi} {n : Nat} {cs : Case} {d : D} (h : Bd0 oo ts xs cs d) : Bd oo ts xs n cs d := by
  cases n with
  | zero => exact h
  | succ n => exact .inl h
theorem bA {oo : Str} {ts : List Ti} {xs : List Wi} {n : Nat} {cs : Case} {l : List D} (h : ∀ z ∈ l.take 2, NoTy z) (a : (l.take 2).all isStr = false) : Bd oo ts xs n cs (.tup l) := b0 (.inr (.inl ⟨l, rfl, h, a⟩))
theorem bA1 {oo : Str} {ts : List Ti} {xs : List Wi} {n : Nat} {cs : Case} {x : D} {r : List D} (h : NoTy x) (h2 : ∀ z ∈ r.take 1, NoTy z) (a : isStr x = false) : Bd oo ts xs n cs (.tup (x :: r)) := by
  refine bA (fun z hz => ?_) ?_
  · rw [show (x :: r).take 2 = x :: r.take 1 from rfl] at hz
    rcases List.mem_cons.mp hz with rfl | hz
    · exact h
    · exact h2 z hz
  · rw [show (x :: r).take 2 = x :: r.take 1 from rfl, List.all_cons, a, Bool.false_and]
theorem bA2 {oo : Str} {ts : List Ti} {xs : List Wi} {n : Nat} {cs : Case} {w : Str} {x : D} {r : List D} (h : NoTy x) (a : isStr x = false) : Bd oo ts xs n cs (.tup (.str w :: x :: r)) := by
  refine bA (fun z hz => ?_) ?_
  · rcases List.mem_cons.mp (show z ∈ [D.str w, x] from hz) with rfl | hz
    · exact nofun
    · rw [List.mem_singleton.mp hz]; exact h
  · show [D.str w, x].all isStr = false
    rw [List.all_cons, List.all_cons, a, Bool.false_and, Bool.and_false]
theorem bB {oo : Str} {ts : List Ti} {xs : List Wi} {n : Nat} {cs : Case} {l : List D} (h : BadBar cs l) : Bd oo ts xs n cs (.tup l) := b0 (.inr (.inr (.inl ⟨l, rfl, h⟩)))
theorem bG {oo : Str} {ts : List Ti} {xs : List Wi} {n : Nat} {cs : Case} {w y : Str} {t : D} (h : BadGo oo ts xs cs w y t) : Bd oo ts xs n cs (.tup [.str w, .str y, t]) := b0 (.inr (.inr (.inr ⟨w, y, t, rfl, h⟩)))
theorem cut1_from {ds : List D} : Fx.cutD ds (some 1) none = ds.drop 1 := by
  cases ds with
  | nil => rfl
  | cons x ds => exact cut_from (by decide) (by rw [List.length_cons]; omega)
theorem cut1_to {ds : List D} : Fx.cutD ds none (some 1) = ds.take 1 := by
  cases ds with
  | nil => rfl
  | cons x ds => exact cut_to (by decide) (by rw [List.length_cons]; omega)
def wOnes : WFn := fun ds Q => ∃ (n : Nat) (oo : Str) (ns : List Str) (ts : List Ti) (xs : List Wi) (cs : Case) (d : D), ds = [d] ∧ Wd oo ns ts xs ∧ CsIn oo ns cs ∧ IsTr 20 n d ∧ holdsV oo ts xs none n cs d = true ∧ ∀ l : List D, l.length ≤ 80 → (∀ x ∈ l, Bd oo ts xs n cs x) → Q (.f (.lst l))
theorem mono__law_odd_ones : MonoF wOnes := fun ds Q Q' i ⟨n, oo, ns, ts, xs, cs, d, h1, h2, h3, h4, h5, q⟩ => ⟨n, oo, ns, ts, xs, cs, d, h1, h2, h3, h4, h5, fun l a b => i _ (q l a b)⟩
theorem look_empty {cs : Case} (ok : CsOk cs) : look cs "" = none := by
  cases h : look cs "" with
  | none => rfl
  | some g =>
    have := ok.a _ (look_mem h)
    exact absurd (show nameB (.str "") = true from this) (by decide +kernel)
theorem ok_ones (T : Txt K mg) (A : At K mg "_law_odd_ones" s__law_odd_ones ["tree"]) : Cal P w K mg base 1 "_law_odd_ones" (spW K tabs (liftF wOnes)) := by
  refine A.of fun f fd F => fx_fnF F sc__law_odd_ones (fun ds Q ⟨_, _, _, _, _, _, _, h, _⟩ => by rw [h]; rfl) fun cdv A outer s H E TT P0 σ0 hcd hr => ⟨_, (gss_cons (gs_setE (i := 1) sc__law_odd_ones.nd rfl (Or.inl rfl) (ge_lstOD (gd_cons (GE.of_pure gp_non) (gd_cons (GE.of_pure gp_bl) (gd_cons (GE.of_pure gp_int) (gd_cons (GE.of_pure gp_str) (gd_cons (GE.of_pure gp_str) (gd_cons ge_dnew (gd_cons (ge_lstD gd_nil) (gd_cons (ge_tupD gd_nil) (gd_cons (ge_lstD (gd_cons (GE.of_pure (gp_var (pv 0))) gd_nil)) (gd_cons (ge_tupD (gd_cons (GE.of_pure (gp_var (pv 0))) gd_nil)) (gd_cons (ge_cbT1 cax_list (by rfl) T.z_list (by decide +kernel) (pv 0)) (gd_cons (ge_op opx_add (GE.of_pure (gp_var (pv 0))) (ge_tupD (gd_cons (GE.of_pure gp_int) gd_nil))) (gd_cons (ge_op opx_add (GE.of_pure (gp_var (pv 0))) (ge_tupD (gd_cons (ge_tupD gd_nil) gd_nil))) (gd_cons (ge_sl (GE.of_pure (gp_var (pv 0))) go_none (go_some (ge_un unx_neg (GE.of_pure gp_int)))) gd_nil))))))))))))))))
      (gss_cons (gs_setE (i := 1) sc__law_odd_ones.nd rfl (Or.inl rfl) (ge_catV (pv 1) (ge_lstD (gd_cons (ge_tupD (gd_cons (GE.of_pure gp_str) (gd_cons (GE.of_pure gp_int) gd_nil))) (gd_cons (ge_tupD (gd_cons (GE.of_pure gp_str) (gd_cons (GE.of_pure gp_non) gd_nil))) (gd_cons (ge_lstD (gd_cons (GE.of_pure gp_str) gd_nil)) (gd_cons (ge_tupD (gd_cons (GE.of_pure gp_str) gd_nil)) (gd_cons (ge_tupD (gd_cons (GE.of_pure gp_non) gd_nil)) (gd_cons (ge_tupD (gd_cons (GE.of_pure gp_bl) gd_nil)) (gd_cons (ge_tupD (gd_cons (GE.of_pure gp_str) gd_nil)) (gd_cons (ge_tupD (gd_cons (GE.of_pure gp_str) gd_nil)) gd_nil)))))))))))
      (gss_cons (gs_setE (i := 1) sc__law_odd_ones.nd rfl (Or.inl rfl) (ge_catV (pv 1) (ge_lstD (gd_cons (ge_tupD (gd_cons (GE.of_pure gp_str) (gd_cons (GE.of_pure gp_non) gd_nil))) (gd_cons (ge_tupD (gd_cons (GE.of_pure gp_str) (gd_cons (ge_lstD gd_nil) gd_nil))) (gd_cons (ge_tupD (gd_cons (GE.of_pure gp_str) (gd_cons (ge_tupD (gd_cons (GE.of_pure gp_str) gd_nil)) gd_nil))) (gd_cons (ge_tupD (gd_cons (GE.of_pure gp_str) (gd_cons ge_dnew gd_nil))) (gd_cons (ge_tupD (gd_cons (GE.of_pure gp_str) (gd_cons (GE.of_pure gp_int) gd_nil))) (gd_cons (ge_tupD (gd_cons (GE.of_pure gp_str) (gd_cons (GE.of_pure gp_str) gd_nil))) gd_nil)))))))))
      (gss_cons (gs_setE (i := 1) sc__law_odd_ones.nd rfl (Or.inl rfl) (ge_catV (pv 1) (ge_lstD (gd_cons (ge_tupD (gd_cons (GE.of_pure gp_str) (gd_cons (GE.of_pure gp_bl) gd_nil))) (gd_cons (ge_tupD (gd_cons (GE.of_pure gp_str) (gd_cons (GE.of_pure (gp_ix ixx (gp_var (pv 0)) gp_int (fun _ _ => rfl))) gd_nil))) (gd_cons (ge_tupD (gd_cons (GE.of_pure gp_str) (gd_cons (GE.of_pure gp_non) (gd_cons (ge_tupD gd_nil) gd_nil)))) (gd_cons (ge_tupD (gd_cons (GE.of_pure gp_str) (gd_cons (ge_lstD gd_nil) (gd_cons (ge_tupD gd_nil) gd_nil)))) (gd_cons (ge_tupD (gd_cons (GE.of_pure (gp_ix ixx (gp_var (pv 0)) gp_int (fun _ _ => rfl))) gd_nil)) gd_nil))))))))
      (gss_cons (gs_if (gt_cmpP (opx_eq hr.units) (gp_ix ixx (gp_var (pv 0)) gp_int (fun _ _ => rfl)) gp_str (nomark _))
      (gss_cons (gs_setE (i := 2) sc__law_odd_ones.nd rfl (Or.inl rfl) (GE.of_pure (gp_ix ixx (gp_var (pv 0)) gp_int (fun _ _ => rfl))))
      (gss_cons (gs_setE (i := 1) sc__law_odd_ones.nd rfl (Or.inl rfl) (ge_catV (pv 1) (ge_lstD (gd_cons (ge_tupD (gd_cons (GE.of_pure gp_str) (gd_cons (GE.of_pure (gp_ix ixx (gp_var (pv 0)) gp_int (fun _ _ => rfl))) (gd_cons (ge_cbT1 cax_list (by rfl) T.z_list (by decide +kernel) (pv 2)) gd_nil)))) (gd_cons (ge_tupD (gd_cons (GE.of_pure gp_str) (gd_cons (GE.of_pure (gp_ix ixx (gp_var (pv 0)) gp_int (fun _ _ => rfl))) (gd_cons (GE.of_pure gp_non) gd_nil)))) (gd_cons (ge_tupD (gd_cons (GE.of_pure gp_str) (gd_cons (GE.of_pure (gp_ix ixx (gp_var (pv 0)) gp_int (fun _ _ => rfl))) (gd_cons ge_dnew gd_nil)))) gd_nil))))))
      (gss_cons (gs_setE (i := 1) sc__law_odd_ones.nd rfl (Or.inl rfl) (ge_catV (pv 1) (ge_lstD (gd_cons (ge_tupD (gd_cons (GE.of_pure gp_str) (gd_cons (ge_lstD (gd_cons (GE.of_pure (gp_ix ixx (gp_var (pv 0)) gp_int (fun _ _ => rfl))) gd_nil)) (gd_cons (GE.of_pure (gp_var (pv 2))) gd_nil)))) (gd_cons (ge_tupD (gd_cons (GE.of_pure gp_str) (gd_cons (ge_tupD (gd_cons (GE.of_pure (gp_ix ixx (gp_var (pv 0)) gp_int (fun _ _ => rfl))) gd_nil)) (gd_cons (GE.of_pure (gp_var (pv 2))) gd_nil)))) (gd_cons (ge_tupD (gd_cons (GE.of_pure gp_str) (gd_cons (GE.of_pure (gp_ix ixx (gp_var (pv 0)) gp_int (fun _ _ => rfl))) (gd_cons (GE.of_pure (gp_var (pv 2))) gd_nil)))) gd_nil))))))
      (gss_cons (gs_setE (i := 1) sc__law_odd_ones.nd rfl (Or.inl rfl) (ge_catV (pv 1) (ge_lstD (gd_cons (ge_tupD (gd_cons (GE.of_pure gp_str) (gd_cons (GE.of_pure (gp_ix ixx (gp_var (pv 0)) gp_int (fun _ _ => rfl))) (gd_cons (ge_op opx_add (GE.of_pure (gp_var (pv 2))) (ge_tupD (gd_cons (GE.of_pure gp_non) gd_nil))) gd_nil)))) (gd_cons (ge_tupD (gd_cons (GE.of_pure gp_str) (gd_cons (GE.of_pure (gp_ix ixx (gp_var (pv 0)) gp_int (fun _ _ => rfl))) (gd_cons (ge_op opx_add (GE.of_pure (gp_var (pv 2))) (ge_tupD (gd_cons (ge_tupD gd_nil) gd_nil))) gd_nil)))) (gd_cons (ge_tupD (gd_cons (GE.of_pure gp_non) (gd_cons (GE.of_pure (gp_ix ixx (gp_var (pv 0)) gp_int (fun _ _ => rfl))) (gd_cons (GE.of_pure (gp_var (pv 2))) gd_nil)))) gd_nil))))))
      (gss_one (gs_for PassesOwn.never rfl (gi_tup (ge_sl (GE.of_pure (gp_var (pv 2))) go_none (go_some (GE.of_pure gp_int)))) (gg_name (pg_name (i := 3) sc__law_odd_ones.nd rfl (Or.inl rfl)) rfl)
      (gss_one (gs_for PassesOwn.never rfl (gi_list (ge_lstD (gd_cons (ge_cbT1 cax_list (by rfl) T.z_list (by decide +kernel) (pv 3)) (gd_cons (ge_sl (GE.of_pure (gp_var (pv 3))) go_none (go_some (GE.of_pure gp_int))) (gd_cons (ge_op opx_add (GE.of_pure (gp_var (pv 3))) (ge_tupD (gd_cons (GE.of_pure gp_int) gd_nil))) (gd_cons (GE.of_pure gp_non) (gd_cons (GE.of_pure (gp_ix ixx (gp_var (pv 3)) gp_int (fun _ _ => rfl))) (gd_cons (ge_tupD (gd_cons (ge_lstD (gd_cons (GE.of_pure (gp_ix ixx (gp_var (pv 3)) gp_int (fun _ _ => rfl))) gd_nil)) (gd_cons (GE.of_pure (gp_ix ixx (gp_var (pv 3)) gp_int (fun _ _ => rfl))) gd_nil))) (gd_cons (ge_tupD (gd_cons (GE.of_pure gp_non) (gd_cons (GE.of_pure (gp_ix ixx (gp_var (pv 3)) gp_int (fun _ _ => rfl))) gd_nil))) gd_nil))))))))) (gg_name (pg_name (i := 4) sc__law_odd_ones.nd rfl (Or.inl rfl)) rfl)
      (gss_one (gs_append (pv 1) (gd_cons (ge_tupD (gd_cons (GE.of_pure gp_str) (gd_cons (GE.of_pure (gp_ix ixx (gp_var (pv 0)) gp_int (fun _ _ => rfl))) (gd_cons (ge_op opx_add (ge_tupD (gd_cons (GE.of_pure (gp_var (pv 4))) gd_nil)) (ge_sl (GE.of_pure (gp_var (pv 2))) (go_some (GE.of_pure gp_int)) go_none)) gd_nil)))) gd_nil)))))))))))
      gss_nil)
      (gss_one (gs_ret (ge_move (pv 1))))))))), fun ds Q ⟨n, oo, ns, ts, xs, cs, d, e, wd, ci, ht, hv, q⟩ => ?_⟩
  subst e
  have sz : (4000 : Nat) ≤ sizeLine := by rw [sizeLine_eq]; omega
  have leaf : Leaf79 d ∨ IsGv 20 n d := by
    cases n with
    | zero => exact .inl ht
    | succ n => exact ht
  rcases leaf with lf | gv
  · rw [leaf_v lf] at hv
    rcases id lf with rfl | ⟨a, ha, rfl | rfl⟩
    · exact absurd (show fullV oo xs none cs = true from hv) Bool.false_ne_true
    · have hw : PyData.strOk "ring" = true := by decide +kernel
      refine x_start (e := [some (.f (.tup [.str "ring", .str a])), none, none, none, none]) rfl ?_
      walk_at "x"
      refine x_slT (ds' := [.str "ring"]) rfl ?_
      walk_at "x"
      refine ⟨_, _, _, rfl, rfl, rfl, Nat.le_trans (Nat.le_of_ble_eq_true rfl) sz, nofun, Nat.le_of_ble_eq_true rfl, ?_⟩
      walk_at "x"
      refine ⟨_, _, _, rfl, rfl, rfl, Nat.le_trans (Nat.le_of_ble_eq_true rfl) sz, nofun, Nat.le_of_ble_eq_true rfl, ?_⟩
      walk_at "x"
      refine ⟨_, _, _, rfl, rfl, rfl, Nat.le_trans (Nat.le_of_ble_eq_true rfl) sz, nofun, Nat.le_of_ble_eq_true rfl, ?_⟩
      walk_at "x"
      refine x_eqD (by decide +kernel) (by decide +kernel) ?_
      rw [show eqB (.str "ring") (.str "giver") = false by decide +kernel]
      walk_at "x"
      refine ⟨_, _, rfl, rfl, ?_⟩
      walk_at "x"
      refine q _ (Nat.le_of_ble_eq_true rfl) ?_
      simp only [List.cons_append, List.nil_append, List.forall_mem_cons]
      refine ⟨bF rfl nofun, bF rfl nofun, bF rfl nofun, bF rfl nofun, bF rfl nofun, bF rfl nofun, bF rfl nofun, bB (.inl rfl), bF rfl nofun, bA1 nofun nofun rfl, bF rfl nofun, bG ⟨hw, ha, .inl (by decide +kernel)⟩, bG ⟨hw, ha, .inl (by decide +kernel)⟩, bB (.inr (.inl ⟨_, rfl, hw⟩)), ?_⟩
      refine ⟨bA2 nofun rfl, bA2 nofun rfl, bF rfl nofun, bB (.inr (.inl ⟨_, rfl, by decide +kernel⟩)), bA1 nofun nofun rfl, bA1 nofun nofun rfl, bB (.inr (.inl ⟨_, rfl, by decide +kernel⟩)), bB (.inr (.inl ⟨_, rfl, by decide +kernel⟩)), ?_⟩
      refine ⟨bA2 nofun rfl, bA2 nofun rfl, bA2 nofun rfl, bA2 nofun rfl, bA2 nofun rfl, bB (.inr (.inr (.inl ⟨_, _, rfl, by decide +kernel, by decide +kernel, .inl (look_empty ci.ok)⟩))), ?_⟩
      exact ⟨bA2 nofun rfl, bB (.inr (.inr (.inl ⟨_, _, rfl, by decide +kernel, ha, .inr ⟨by decide +kernel, by decide +kernel⟩⟩))), bA2 nofun rfl, bA2 nofun rfl, bB (.inr (.inl ⟨_, rfl, hw⟩)), nofun⟩
    · have hw : PyData.strOk "time" = true := by decide +kernel
      refine x_start (e := [some (.f (.tup [.str "time", .str a])), none, none, none, none]) rfl ?_
      walk_at "x"
      refine x_slT (ds' := [.str "time"]) rfl ?_
      walk_at "x"
      refine ⟨_, _, _, rfl, rfl, rfl, Nat.le_trans (Nat.le_of_ble_eq_true rfl) sz, nofun, Nat.le_of_ble_eq_true rfl, ?_⟩
      walk_at "x"
      refine ⟨_, _, _, rfl, rfl, rfl, Nat.le_trans (Nat.le_of_ble_eq_true rfl) sz, nofun, Nat.le_of_ble_eq_true rfl, ?_⟩
      walk_at "x"
      refine ⟨_, _, _, rfl, rfl, rfl, Nat.le_trans (Nat.le_of_ble_eq_true rfl) sz, nofun, Nat.le_of_ble_eq_true rfl, ?_⟩
      walk_at "x"
      refine x_eqD (by decide +kernel) (by decide +kernel) ?_
      rw [show eqB (.str "time") (.str "giver") = false by decide +kernel]
      walk_at "x"
      refine ⟨_, _, rfl, rfl, ?_⟩
      walk_at "x"
      refine q _ (Nat.le_of_ble_eq_true rfl) ?_
      simp only [List.cons_append, List.nil_append, List.forall_mem_cons]
      refine ⟨bF rfl nofun, bF rfl nofun, bF rfl nofun, bF rfl nofun, bF rfl nofun, bF rfl nofun, bF rfl nofun, bB (.inl rfl), bF rfl nofun, bA1 nofun nofun rfl, bF rfl nofun, bG ⟨hw, ha, .inl (by decide +kernel)⟩, bG ⟨hw, ha, .inl (by decide +kernel)⟩, bB (.inr (.inl ⟨_, rfl, hw⟩)), ?_⟩
      refine ⟨bA2 nofun rfl, bA2 nofun rfl, bF rfl nofun, bB (.inr (.inl ⟨_, rfl, by decide +kernel⟩)), bA1 nofun nofun rfl, bA1 nofun nofun rfl, bB (.inr (.inl ⟨_, rfl, by decide +kernel⟩)), bB (.inr (.inl ⟨_, rfl, by decide +kernel⟩)), ?_⟩
      refine ⟨bA2 nofun rfl, bA2 nofun rfl, bA2 nofun rfl, bA2 nofun rfl, bA2 nofun rfl, bB (.inr (.inr (.inl ⟨_, _, rfl, by decide +kernel, by decide +kernel, .inl (look_empty ci.ok)⟩))), ?_⟩
      exact ⟨bA2 nofun rfl, bB (.inr (.inr (.inl ⟨_, _, rfl, by decide +kernel, ha, .inr ⟨by decide +kernel, by decide +kernel⟩⟩))), bA2 nofun rfl, bA2 nofun rfl, bB (.inr (.inl ⟨_, rfl, hw⟩)), nofun⟩
  · obtain ⟨n, rfl⟩ : ∃ k, n = k + 1 := by
      cases n with
      | zero => exact absurd gv id
      | succ k => exact ⟨k, rfl⟩
    obtain ⟨a, rs, rfl, ha, rl, hr2⟩ := gv
    rw [holds_giver, Bool.and_eq_true, Bool.and_eq_true] at hv
    have hn : nextV oo xs cs = some a := eq_of_beq hv.1
    have hy : IsTied ts a (rs.map (·.1)) := by have h := hv.2.1; unfold tiedB at h; exact @of_decide_eq_true _ (Classical.propDecidable _) h
    have hg : PyData.strOk "giver" = true := by decide +kernel
    generalize hR : rs.map rwD = R
    have Rl : R.length = (rs.map (·.1)).length := by rw [← hR, List.length_map, List.length_map]
    have R20 : R.length ≤ 20 := by rw [Rl, List.length_map]; exact rl
    have gX : ∀ t : D, isTup t = false → NoTy t → Bd oo ts xs (n + 1) cs (.tup [.str "giver", .str a, t]) := fun t h1 h2 => bG ⟨hg, ha, .inr ⟨hn, .inl ⟨h1, h2⟩⟩⟩
    have gL : ∀ l : List D, l.length ≠ R.length → Bd oo ts xs (n + 1) cs (.tup [.str "giver", .str a, .tup l]) := fun l h => bG ⟨hg, ha, .inr ⟨hn, .inr ⟨_, l, hy, rfl, .inl (by rw [← Rl]; exact h)⟩⟩⟩
    have gB : ∀ (b : D) (l : List D), l.length + 1 = R.length → BadRow b → Bd oo ts xs (n + 1) cs (.tup [.str "giver", .str a, .tup (b :: l)]) := fun b l h hb => bG ⟨hg, ha, .inr ⟨hn, .inr ⟨_, b :: l, hy, rfl, .inr ⟨b, l, rfl, by rw [← Rl, ← h]; rfl, hb⟩⟩⟩⟩
    refine x_start (e := [some (.f (.tup [.str "giver", .str a, .tup R])), none, none, none, none]) rfl ?_
    walk_at "x"
    refine x_slT (ds' := [.str "giver", .str a]) rfl ?_
    walk_at "x"
    refine ⟨_, _, _, rfl, rfl, rfl, Nat.le_trans (Nat.le_of_ble_eq_true rfl) sz, nofun, Nat.le_of_ble_eq_true rfl, ?_⟩
    walk_at "x"
    refine ⟨_, _, _, rfl, rfl, rfl, Nat.le_trans (Nat.le_of_ble_eq_true rfl) sz, nofun, Nat.le_of_ble_eq_true rfl, ?_⟩
    walk_at "x"
    refine ⟨_, _, _, rfl, rfl, rfl, Nat.le_trans (Nat.le_of_ble_eq_true rfl) sz, nofun, Nat.le_of_ble_eq_true rfl, ?_⟩
    walk_at "x"
    refine x_eqD (by decide +kernel) (by decide +kernel) ?_
    rw [show eqB (.str "giver") (.str "giver") = true by decide +kernel]
    walk_at "x"
    refine ⟨_, _, _, rfl, rfl, rfl, Nat.le_trans (Nat.le_of_ble_eq_true rfl) sz, nofun, Nat.le_of_ble_eq_true rfl, ?_⟩
    walk_at "x"
    refine ⟨_, _, _, rfl, rfl, rfl, Nat.le_trans (Nat.le_of_ble_eq_true rfl) sz, nofun, Nat.le_of_ble_eq_true rfl, ?_⟩
    walk_at "x"
    refine ⟨_, _, _, rfl, rfl, rfl, Nat.le_trans (Nat.le_of_ble_eq_true rfl) sz, nofun, Nat.le_of_ble_eq_true rfl, ?_⟩
    walk_at "x"
    refine x_slT cut1_to ?_
    walk_at "x"
    refine ⟨fun i e => ∃ (l : List D) (x3 x4 : Option Sl), e = [some (.f (.tup [.str "giver", .str a, .tup R])), some (.own (.lst l)), some (.f (.tup R)), x3, x4] ∧ l.length ≤ 42 + 7 * i ∧ ∀ x ∈ l, Bd oo ts xs (n + 1) cs x, ⟨_, _, _, rfl, ?_, ?_⟩, ?_, ?_⟩
    · exact Nat.le_of_ble_eq_true rfl
    · simp only [List.cons_append, List.nil_append, List.forall_mem_cons]
      refine ⟨bF rfl nofun, bF rfl nofun, bF rfl nofun, bF rfl nofun, bF rfl nofun, bF rfl nofun, bF rfl nofun, bB (.inl rfl), bF rfl nofun, bA1 nofun nofun rfl, bF rfl nofun, bB (.inr (.inr (.inr ⟨_, _, _, _, rfl⟩))), bB (.inr (.inr (.inr ⟨_, _, _, _, rfl⟩))), bB (.inr (.inr (.inl ⟨_, _, rfl, hg, ha, .inr ⟨by decide +kernel, by decide +kernel⟩⟩))), ?_⟩
      refine ⟨bA2 nofun rfl, bA2 nofun rfl, bF rfl nofun, bB (.inr (.inl ⟨_, rfl, by decide +kernel⟩)), bA1 nofun nofun rfl, bA1 nofun nofun rfl, bB (.inr (.inl ⟨_, rfl, by decide +kernel⟩)), bB (.inr (.inl ⟨_, rfl, by decide +kernel⟩)), ?_⟩
      refine ⟨bA2 nofun rfl, bA2 nofun rfl, bA2 nofun rfl, bA2 nofun rfl, bA2 nofun rfl, bB (.inr (.inr (.inl ⟨_, _, rfl, by decide +kernel, by decide +kernel, .inl (look_empty ci.ok)⟩))), ?_⟩
      refine ⟨bA2 nofun rfl, bB (.inr (.inr (.inl ⟨_, _, rfl, by decide +kernel, ha, .inr ⟨by decide +kernel, by decide +kernel⟩⟩))), bA2 nofun rfl, bA2 nofun rfl, bB (.inr (.inl ⟨_, rfl, by decide +kernel⟩)), ?_⟩
      refine ⟨gX _ rfl nofun, gX _ rfl nofun, gX _ rfl nofun, bA2 nofun rfl, bA2 nofun rfl, bG ⟨by decide +kernel, ha, .inl (by decide +kernel)⟩, ?_⟩
      exact ⟨gL _ (by rw [List.length_append]; exact Nat.succ_ne_self _), gL _ (by rw [List.length_append]; exact Nat.succ_ne_self _), bA1 nofun (fun z hz => by rw [List.mem_singleton.mp hz]; exact nofun) rfl, nofun⟩
    · rintro i d e hd ⟨l, x3, x4, rfl, hl, hb⟩
      have hex : ∃ (r : Str × D) (R' : List D), R = rwD r :: R' ∧ d = rwD r ∧ i = 0 := by
        cases rs with
        | nil => subst hR; exact absurd hd (by simp)
        | cons r rs =>
          refine ⟨r, rs.map rwD, hR.symm, ?_⟩
          rw [← hR] at hd
          have hd : [rwD r][i]? = some d := hd
          cases i with
          | zero => exact ⟨(Option.some.inj hd).symm, rfl⟩
          | succ i => exact absurd hd nofun
      obtain ⟨r, R', hR2, rfl, rfl⟩ := hex
      have R19 : R'.length ≤ 19 := by rw [hR2, List.length_cons] at R20; omega
      rw [show rwD r = .tup [.str r.1, r.2] from rfl] at *
      walk_at "x"
      refine x_slT (ds' := [.str r.1]) rfl ?_
      walk_at "x"
      refine ⟨fun j e => ∃ (l : List D) (x4 : Option Sl), e = [some (.f (.tup [.str "giver", .str a, .tup R])), some (.own (.lst l)), some (.f (.tup R)), some (.f (.tup [.str r.1, r.2])), x4] ∧ l.length ≤ 42 + j ∧ ∀ x ∈ l, Bd oo ts xs (n + 1) cs x, ⟨l, _, rfl, hl, hb⟩, ?_, ?_⟩
      · rintro j d e hd2 ⟨l, x4, rfl, hl2, hb⟩
        have bad : BadRow d ∧ j < 7 := by
          refine ⟨?_, (List.getElem?_eq_some_iff.mp hd2).1⟩
          have hm := List.mem_of_getElem? hd2
          simp only [List.mem_cons, List.not_mem_nil, or_false] at hm
          rcases hm with rfl | rfl | rfl | rfl | rfl | rfl | rfl
          · exact .inl ⟨nofun, rfl⟩
          · exact .inr (.inl ⟨_, rfl, nofun⟩)
          · exact .inr (.inl ⟨_, rfl, nofun⟩)
          · exact .inl ⟨nofun, rfl⟩
          · exact .inl ⟨nofun, rfl⟩
          · exact .inr (.inr ⟨_, _, rfl, nofun, rfl⟩)
          · exact .inr (.inr ⟨_, _, rfl, nofun, rfl⟩)
        have fo : Bd oo ts xs (n + 1) cs (.tup [.str "giver", .str a, .tup (d :: R')]) := gB d R' (by rw [hR2]; rfl) bad.1
        have hj := bad.2
        walk_at "x"
        refine x_slT (ds' := R') (by rw [cut1_from, hR2]; rfl) ?_
        walk_at "x"
        refine x_appE rfl (by omega) ?_
        refine ⟨_, _, rfl, by rw [List.length_append, List.length_singleton]; omega, fun x hx => ?_⟩
        rcases List.mem_append.mp hx with hx | hx
        · exact hb x hx
        · rw [List.mem_singleton.mp hx]; exact fo
      · rintro e ⟨l, x4, rfl, hl2, hb⟩
        walk_at "x"
        exact ⟨l, _, _, rfl, hl2, hb⟩
    · rintro e ⟨l, x3, x4, rfl, hl, hb⟩
      walk_at "x"
      refine ⟨_, _, rfl, rfl, ?_⟩
      walk_at "x"
      exact q l (by rw [List.length_take] at hl; omega) hb

end
end K80

namespace K80
open PySem PySem.Spec PyProof.Rows L2 Lk Evl Fx


local macro_rules | `(tactic| walk_at "sz") => `(tactic| first
  | exact Nat.le_of_ble_eq_true rfl
  | assumption
  | exact small_sz (Nat.le_of_ble_eq_true rfl)
  | (simp only [List.length_cons, List.length_nil, List.length_map, List.length_append]; first | omega | exact small_sz (by omega)))
local macro_rules | `(tactic| walk_at "x1") => `(tactic| first
  | with_reducible refine x_seq ?_
  | (with_reducible show wVar _ _ _); first | refine x_varF rfl ?_ | refine x_varO rfl ?_ | refine x_varV rfl ?_
  | with_reducible refine x_c ?_
  | with_reducible refine x_exf ?_
  | with_reducible refine x_excd ?_
  | (with_reducible show ∃ d1, Sl.cd (Sl.vw _) = some d1 ∧ _); refine x_excV rfl ?_
  | (with_reducible show ∃ d1, Sl.cd (Sl.own _) = some d1 ∧ _); refine x_excO rfl ?_
  | with_reducible refine x_binP ?_
  | with_reducible refine x_bin ?_
  | with_reducible refine x_adC ?_
  | with_reducible refine x_adN ?_
  | with_reducible refine x_lst ?_
  | with_reducible refine x_tup ?_
  | with_reducible refine x_lstO ?_
  | (with_reducible refine x_and (p := _ ≤ sizeLine) ?h ?_); (case h => walk_at "sz")
  | with_reducible refine x_callF ?_
  | with_reducible refine x_callL ?_
  | with_reducible refine x_listO ?_
  | with_reducible refine x_dstar ?_
  | with_reducible refine x_getN ?_
  | with_reducible refine x_ss ?_
  | with_reducible refine x_mulO ?_
  | with_reducible refine x_iZM ?_
  | (with_reducible show wCallU _ _ _ _ _); refine x_callU rfl ?_
  | with_reducible refine x_callV ?_
  | with_reducible refine x_join ?_
  | with_reducible refine x_waD ?_
  | with_reducible refine x_lc ?_
  | with_reducible refine x_lc2 ?_
  | with_reducible refine x_lenSets ?_
  | (with_reducible show wApp _ _ _ _); refine x_app rfl ?_
  | (with_reducible show wBinV _ _ _ _ _); refine x_binV rfl ?_
  | (with_reducible show wPopD _ _ _ _); refine x_popD rfl ?_
  | (with_reducible show wCatV _ _ _ _); refine x_catV rfl ?_
  | with_reducible refine x_slN2 ?_
  | with_reducible refine x_sortedSets ?_
  | with_reducible refine x_tplL ?_
  | with_reducible refine x_tplT ?_
  | with_reducible refine x_isB ?_
  | with_reducible refine x_r1 ?_
  | with_reducible refine x_r2 ?_
  | (with_reducible refine x_r1e ?h0 ?h1 ?_); (case h0 => omega); (case h1 => omega)
  | with_reducible refine x_iL ?_
  | with_reducible refine x_iT ?_
  | with_reducible refine x_iS ?_
  | with_reducible refine x_iE ?_
  | with_reducible refine x_iEe ?_
  | with_reducible refine x_yes ?_
  | with_reducible refine x_for ?_
  | (with_reducible show wLot _ [D.int _] _); (refine' x_lot (by assumption) ?h1 ?h2 ?h3 ?_); (case h1 => omega); (case h2 => first | decide | omega); (case h3 => first | decide | omega)
  | (with_reducible show ∃ o, _ = some (some (Sl.own o)) ∧ _); refine x_exO rfl ?_
  | with_reducible refine x_exo ?_
  | with_reducible refine x_ret ?_
  | with_reducible refine x_set ?_
  | with_reducible refine x_fin ?_
  | with_reducible refine x_fino ?_
  | (with_reducible refine x_and (p := _ < List.length _) ?h ?_); (case h => exact Nat.le_of_ble_eq_true rfl); (try dsimp only [List.set_cons_succ, List.set_cons_zero])
  | with_reducible refine x_next ?_
  | with_reducible refine x_retN ?_
  | with_reducible refine x_drop ?_
  | with_reducible refine x_asg ?_
  | (with_reducible refine x_gtp ?h ?_); (case h => rfl)
  | with_reducible refine x_gcons ?_
  | with_reducible refine x_gnil ?_
  | (with_reducible refine x_gn ?h ?_); (case h => exact Nat.le_of_ble_eq_true rfl); (try dsimp only [List.set_cons_succ, List.set_cons_zero])
  | with_reducible refine x_ifS ?_
  | with_reducible refine x_if ?_
  | with_reducible refine x_itT ?_
  | with_reducible refine x_itF ?_
  | with_reducible refine x_iteN ?_
  | with_reducible refine x_tru ?_
  | with_reducible refine x_tB ?_
  | with_reducible refine x_dtB ?_
  | with_reducible refine x_dtN ?_
  | with_reducible refine x_exb ?_
  | with_reducible refine x_exdb ?_
  | with_reducible refine x_tand ?_
  | with_reducible refine x_tor ?_
  | with_reducible refine x_tnot ?_
  | with_reducible refine x_and2 ?_
  | with_reducible refine x_or2 ?_
  | with_reducible refine x_not2 ?_
  | with_reducible refine x_chain ?_
  | with_reducible refine x_sub ?_
  | with_reducible refine x_addI ?_
  | (with_reducible refine x_addS ?h ?_); (case h => walk_at "sz")
  | (with_reducible refine x_addL ?h ?_); (case h => walk_at "sz")
  | (with_reducible refine x_addT ?h ?_); (case h => walk_at "sz")
  | with_reducible refine x_lt ?_
  | with_reducible refine x_le ?_
  | with_reducible refine x_gt ?_
  | with_reducible refine x_ge ?_
  | with_reducible refine x_ltS ?_
  | with_reducible refine x_eqI ?_
  | with_reducible refine x_neI ?_
  | with_reducible refine x_allSg ?_
  | with_reducible refine x_m0 ?_
  | with_reducible refine x_lstT ?_
  | with_reducible refine x_lstL ?_
  | with_reducible refine x_strB ?_
  | with_reducible refine x_strN ?_
  | with_reducible refine x_strS ?_
  | with_reducible refine x_isT ?_
  | with_reducible refine x_isI ?_
  | with_reducible refine x_neg ?_
  | with_reducible refine x_un ?_
  | (with_reducible refine x_pow ?h ?_); (case h => exact ⟨by decide, by decide +kernel⟩)
  | (with_reducible refine x_mod ?h ?_); (case h => first | decide | omega)
  | (with_reducible refine x_mul ?h ?_); (case h => exact mul_ok (by first | decide | omega) (by first | decide | omega))
  | (with_reducible refine x_div ?h ?_); (case h => exact div_ok (by first | decide | omega) (by first | decide | omega))
  | with_reducible refine x_ipA ?_
  | (with_reducible show wAugL _ _ _ _ _ _); refine x_augL rfl ?_
  | (with_reducible show wAug _ _ _ _ _); refine x_aug rfl ?_
  | (with_reducible show ∃ k' ds d, Sl.f (D.int _) = Sl.f (D.int k') ∧ _); refine x_augL1 rfl (by decide) rfl ?_
  | (with_reducible show ∃ k' j ds, Sl.f (D.int _) = Sl.f (D.int k') ∧ _ = some (some (Sl.own (O.lst ds))) ∧ ixN _ k' = some j ∧ _); refine x_setL1 rfl rfl ?_; (try dsimp only [List.set_cons_succ, List.set_cons_zero])
  | (with_reducible show ∃ ds j, _ = some (some (Sl.own (O.lst ds))) ∧ ixN _ _ = some j ∧ _); refine x_augL2 rfl rfl ?_; (try dsimp only [List.set_cons_succ, List.set_cons_zero])
  | (with_reducible show gSetL _ _ _ _ _); refine x_setL rfl ?_
  | (with_reducible show dIx (D.lst _) (D.int _) _); refine x_ixL rfl ?_
  | (with_reducible show dIx (D.tup _) (D.int _) _); refine x_ixT rfl ?_
  | with_reducible refine x_cb ?_
  | (with_reducible show wCB1 _ _ _ _); refine x_cb1 rfl rfl ?_
  | with_reducible refine x_fm ?_
  | with_reducible refine x_exl ?_
  | with_reducible refine x_ext ?_
  | with_reducible refine x_exs ?_
  | with_reducible refine x_exi ?_
  | with_reducible refine x_sl ?_
  | with_reducible refine x_slN ?_
  | with_reducible refine x_slS ?_
  | with_reducible refine x_frz ?_
  | with_reducible refine x_frL ?_
  | with_reducible refine x_revT ?_
  | with_reducible refine x_revL ?_
  | with_reducible refine x_splitO ?_
  | (with_reducible show wSlO _ _ _ _ _); refine x_slO rfl ?_
  | (with_reducible show ∃ ds2, _ = some (some (Sl.own (O.lst ds2))) ∧ _); refine x_exOl rfl ?_
  | with_reducible refine x_dictO ?_
  | with_reducible refine x_psC ?_
  | with_reducible refine x_psN ?_
  | with_reducible refine x_get ?_
  | (with_reducible show gSetSl _ _ _ _ _ _); refine x_setSl rfl ?_
  | with_reducible refine x_split ?_
  | with_reducible refine x_isN1 ?_
  | with_reducible refine x_isN0 rfl ?_
  | with_reducible refine x_iZ ?_
  | with_reducible refine x_zT ?_
  | with_reducible refine x_zL ?_
  | with_reducible refine x_stp ?_
  | with_reducible refine x_js ?_
  | with_reducible refine x_jsC ?_
  | with_reducible refine x_jsN ?_
  | with_reducible refine x_fmt ?_
  | with_reducible refine x_callFX ?_
  | (with_reducible refine x_glp ?h ?_); (case h => rfl)
  | with_reducible refine x_raiseR ?_
  | with_reducible refine x_row ?_
  | with_reducible refine x_lenL ?_
  | with_reducible refine x_lenT ?_
  | with_reducible refine x_lenD ?_
  | (with_reducible refine x_lenS ?h ?_); (case h => walk_at "sz")
  | with_reducible refine x_max ?_
  | with_reducible refine x_min ?_
  | with_reducible refine x_intI ?_
  | with_reducible refine x_intB ?_
  | (with_reducible refine x_isInt ?h ?_); (case h => first | assumption | exact part_ty (by assumption) | (intro _ hh; cases hh; done))
  | (with_reducible refine x_isBl ?h ?_); (case h => first | assumption | exact part_ty (by assumption) | (intro _ hh; cases hh; done))
  | (with_reducible refine x_isStr ?h ?_); (case h => first | assumption | exact part_ty (by assumption) | (intro _ hh; cases hh; done))
  | (with_reducible refine x_isTup ?h ?_); (case h => first | assumption | exact part_ty (by assumption) | (intro _ hh; cases hh; done))
  | (with_reducible refine x_isLst ?h ?_); (case h => first | assumption | exact part_ty (by assumption) | (intro _ hh; cases hh; done))
  | (with_reducible refine x_isDic ?h ?_); (case h => first | assumption | exact part_ty (by assumption) | (intro _ hh; cases hh; done))
  | (with_reducible refine x_itTe ?e ?_); (case e => rfl)
  | (with_reducible refine x_itFe ?e ?_); (case e => rfl)
  | with_reducible refine x_dnewO ?_
  | with_reducible refine x_dput ?_
  | with_reducible refine x_dix ?_
  | with_reducible refine x_sortedD ?_
  | with_reducible refine x_star ?_
  | with_reducible refine x_starT ?_
  | with_reducible refine x_frzD ?_
  | with_reducible refine x_sw ?_
  | with_reducible refine x_cnt ?_
  | with_reducible refine x_waC ?_
  | with_reducible refine x_waN ?_
  | with_reducible refine x_lenDD ?_
  | with_reducible refine x_allX ?_
  | (with_reducible show wFz _ _ _ _); refine x_fz rfl ?_
  | (with_reducible show wFzS _ _ _ _); refine x_fzS rfl ?_
  | (with_reducible show wFzO _ _ _ _); refine x_fzO rfl ?_
  | (with_reducible show wiK _ _ _); refine x_iK rfl ?_
  | (with_reducible show wiIt _ _ _); refine x_iIt rfl ?_
  | with_reducible refine x_iE1 ?_
  | with_reducible refine x_forR ?_
  | (with_reducible show wDIxV _ _ _ _); refine x_dixV rfl (cd_dicO _) ?_
  | (with_reducible show wDPop _ _ _ _); refine x_dpop rfl ?_
  | with_reducible refine x_pickO ?_
  | (with_reducible show wExt _ _ _ _); refine x_extO rfl ?_
  | with_reducible refine x_sortedR ?_
  | with_reducible refine x_sortedL ?_
  | with_reducible refine x_ixSt ?_
  | (with_reducible show wiVal _ _ _); refine x_iVal rfl ?_
  | with_reducible refine x_dictP ?_
  | with_reducible refine x_dictZip ?_
  | with_reducible refine x_revS ?_
  | with_reducible refine x_par ?_
  | (with_reducible show wIsiV _ _ _ _ _); refine x_isiV rfl ?_
  | ((with_reducible show _ ∧ _); refine And.intro (Nat.le_of_ble_eq_true rfl) ?_))
local macro_rules | `(tactic| walk_at "x") => `(tactic| repeat (walk_at "x1"))

section
variable {P : Program} {w : World} {K : PySem.W.Frag} {mg : Str → Option Value} {base : Heap} {tabs : List Addr}
/-! ### the law: a tree gone odd -/
def wOdd : Nat → WUn
  | 0, _, _, _ => False
  | N + 1, o, ds, Q => ∃ (oo : Str) (ns : List Str) (ts : List Ti) (xs : List Wi) (cs : Case) (n u : Nat) (d : D), ds = [d] ∧ n ≤ N ∧ Wd oo ns ts xs ∧ CsIn oo ns cs ∧ IsTr 20 n d ∧ holdsV oo ts xs none n cs d = true ∧ Un o u ∧ u + 2 * n + 3 ≤ 99000 ∧ ∀ (l : List D) o', l.length ≤ 80 → (∀ x ∈ l, Bd oo ts xs n cs x) → Un o' (u + 2 * n + 3) → Q (.f (.lst l)) o'
theorem mono__law_odd : ∀ {n : Nat}, MonoU2 (wOdd n)
  | 0 => fun _ _ _ _ _ h => h
  | n + 1 => fun o ds Q Q' i ⟨oo, ns, ts, xs, cs, n0, u, d, h0, h1, h2, h3, h4, h5, h6, h7, q⟩ => ⟨oo, ns, ts, xs, cs, n0, u, d, h0, h1, h2, h3, h4, h5, h6, h7, fun l o' a b c => i _ _ (q l o' a b c)⟩
theorem eqT_nil {x : D} {l : List D} : eqB (.tup (x :: l)) (.tup []) = false := by
  show PyData.eqvAll (D.pyL (x :: l)) [] = false
  unfold PyData.eqvAll
  rfl
theorem eqT_emp {l : List D} : eqB (.tup l) (.tup []) = l.isEmpty := by
  cases l with
  | nil => show PyData.eqvAll [] [] = true; unfold PyData.eqvAll; rfl
  | cons x l => exact eqT_nil
theorem ok_odd0 (k : Nat) (A : At K mg "_law_odd" s__law_odd ["pool", "tree"]) : Cal P w K mg base (k + 1) "_law_odd" (spW K tabs (liftU (wOdd 0))) := by
  refine A.of fun f fd F => fx_fnU F sc__law_odd (fun o ds Q h => h.elim) fun cdv A outer s H E TT P0 σ0 hcd hr => ⟨fun _ _ => False, ⟨⟨fun pins s σ H D I ⟨_, _, _, _, h⟩ => h.elim⟩, fun _ _ _ _ h => h⟩, fun o ds Q h => h⟩
theorem ok_odd {N k : Nat} (hk : 1 ≤ k) (hN : N ≤ 15) (T : Txt K mg) (c__law_odd : Cal P w K mg base k "_law_odd" (spW K tabs (liftU (wOdd N)))) (c__law_draw : Cal P w K mg base 1 "_law_draw" (spW K tabs (liftU wLot))) (c__law_odd_ones : Cal P w K mg base 1 "_law_odd_ones" (spW K tabs (liftF wOnes))) (A : At K mg "_law_odd" s__law_odd ["pool", "tree"]) :
    Cal P w K mg base (k + 1) "_law_odd" (spW K tabs (liftU (wOdd (N + 1)))) := by
  refine A.of fun f fd F => fx_fnU F sc__law_odd (fun o ds Q ⟨_, _, _, _, _, _, _, _, h, _⟩ => by rw [h]; rfl) fun cdv A outer s H E TT P0 σ0 hcd hr => ⟨_, (gss_cut (gs_if (GW.gt (gw_and (gt_cmpP (opx_eq hr.units) (gp_ix ixx (gp_var (pv 1)) gp_int (fun _ _ => rfl)) gp_str (nomark _)) (gw_and (gt_cmp (opx_ne hr.units) (GE.of_pure (gp_ix ixx (gp_var (pv 1)) gp_int (fun _ _ => rfl))) (ge_tupD gd_nil) (nomark _)) (gw_and1 (gt_cmp opx_gt (ge_callU c__law_draw hr (by first | decide | omega) rfl rfl rfl mono__law_draw (pv 0) (gd_cons (GE.of_pure gp_int) gd_nil)) (GE.of_pure gp_int) (nomark _))))))
      (gss_cons (gs_setE (i := 2) sc__law_odd.nd rfl (Or.inr rfl) (ge_callU c__law_draw hr (by first | decide | omega) rfl rfl rfl mono__law_draw (pv 0) (gd_cons (ge_cbB cax_len (by rfl) T.z_len (by decide +kernel) (gd_cons (GE.of_pure (gp_ix ixx (gp_var (pv 1)) gp_int (fun _ _ => rfl))) gd_nil)) gd_nil)))
      (gss_cons (gs_asg (GE.of_pure (gp_ix ixx (gp_ix ixx (gp_var (pv 1)) gp_int (fun _ _ => rfl)) (gp_var (pv 2)) (fun _ _ => rfl))) (gg_tup (n := 2) rfl (ggs_cons (pg_name (i := 3) sc__law_odd.nd rfl (Or.inr rfl)) rfl (ggs_cons (pg_name (i := 4) sc__law_odd.nd rfl (Or.inl rfl)) rfl ggs_nil))))
      (gss_cons (gs_setE (i := 5) sc__law_odd.nd rfl (Or.inl rfl) (ge_callU c__law_odd hr (by first | decide | omega) rfl rfl rfl mono__law_odd (pv 0) (gd_cons (GE.of_pure (gp_var (pv 4))) gd_nil)))
      (gss_one (gs_ret (ge_frz (ge_lcR (own := [("odd", 6)]) (t := .name 6) rfl sc__law_odd.nd (gi_list (GE.of_pure (gp_var (pv 5)))) (blkOk_by (own := [("odd", 6)]) (N := ["pool", "tree", "at", "giver", "rest", "found", "odd"]) (sc := defScope s__law_odd) (by decide +kernel)) (fun _ _ _ _ _ => (pg_name (i := 6) sc__law_odd.nd rfl (Or.inl rfl))) (fun _ _ _ _ _ => (ge_tupD (gd_cons (GE.of_pure gp_str) (gd_cons (GE.of_pure (gp_ix ixx (gp_var (pv 1)) gp_int (fun _ _ => rfl))) (gd_cons (ge_op opx_add (ge_op opx_add (ge_sl (GE.of_pure (gp_ix ixx (gp_var (pv 1)) gp_int (fun _ _ => rfl))) go_none (go_some (GE.of_pure (gp_var (pv 2))))) (ge_tupD (gd_cons (ge_tupD (gd_cons (GE.of_pure (gp_var (pv 3))) (gd_cons (GE.of_pure (gp_var (pv 6))) gd_nil))) gd_nil))) (ge_sl (GE.of_pure (gp_ix ixx (gp_var (pv 1)) gp_int (fun _ _ => rfl))) (go_some (GE.of_pure (gp_op opx_add (gp_var (pv 2)) gp_int))) go_none)) gd_nil))))) (by decide) (mem1 rfl) (mem1 (Nat.le_of_ble_eq_true rfl)))))))))
      gss_nil)
      (gss_one (gs_ret (ge_callF c__law_odd_ones hr (by first | decide | omega) rfl rfl rfl mono__law_odd_ones (gd_cons (GE.of_pure (gp_var (pv 1))) gd_nil))))), fun o ds Q ⟨oo, ns, ts, xs, cs, n, u, d, e, hn, wd, ci, ht, hv, un, hu, q⟩ => ?_⟩
  subst e
  have leaf : Leaf79 d ∨ IsGv 20 n d := by
    cases n with
    | zero => exact .inl ht
    | succ n => exact ht
  rcases leaf with lf | gv
  · rcases id lf with rfl | ⟨a, ha, rfl | rfl⟩
    · rw [leaf_v lf] at hv
      exact absurd (show fullV oo xs none cs = true from hv) Bool.false_ne_true
    · refine x_start (e := [some (.own o), some (.f (.tup [.str "ring", .str a])), none, none, none, none, none]) rfl ?_
      refine x_cut (fun e => e = [some (.own o), some (.f (.tup [.str "ring", .str a])), none, none, none, none, none]) ?_ ?_
      · walk_at "x"
        refine x_eqD (by decide +kernel) (by decide +kernel) ?_
        rw [show eqB (.str "ring") (.str "giver") = false by decide +kernel]
        walk_at "x"
        rfl
      rintro e rfl
      walk_at "x"
      refine ⟨n, oo, ns, ts, xs, cs, _, rfl, wd, ci, ht, hv, fun l hl hb => ?_⟩
      walk_at "x"
      exact q l o hl hb (un.mono (by omega))
    · refine x_start (e := [some (.own o), some (.f (.tup [.str "time", .str a])), none, none, none, none, none]) rfl ?_
      refine x_cut (fun e => e = [some (.own o), some (.f (.tup [.str "time", .str a])), none, none, none, none, none]) ?_ ?_
      · walk_at "x"
        refine x_eqD (by decide +kernel) (by decide +kernel) ?_
        rw [show eqB (.str "time") (.str "giver") = false by decide +kernel]
        walk_at "x"
        rfl
      rintro e rfl
      walk_at "x"
      refine ⟨n, oo, ns, ts, xs, cs, _, rfl, wd, ci, ht, hv, fun l hl hb => ?_⟩
      walk_at "x"
      exact q l o hl hb (un.mono (by omega))
  · cases n with
    | zero => exact gv.elim
    | succ n =>
    obtain ⟨a, rs, rfl, ha, rl, hrs⟩ := gv
    obtain ⟨N, rfl⟩ : ∃ N', N = N' + 1 := ⟨N - 1, by omega⟩
    have hv0 := hv
    rw [holds_giver, Bool.and_eq_true, Bool.and_eq_true] at hv
    have hnx : nextV oo xs cs = some a := eq_of_beq hv.1
    have hy : IsTied ts a (rs.map (·.1)) := by have h := hv.2.1; unfold tiedB at h; exact @of_decide_eq_true _ (Classical.propDecidable _) h
    have hvr := List.all_eq_true.mp hv.2.2
    have rfit : okPy (.tup (rs.map rwD)) = true := (fit_tup (n := 3 * n + 2) fun y hy => by
      obtain ⟨r, hr, rfl⟩ := List.mem_map.mp hy
      refine fit_tup (n := 3 * n + 1) fun z hz => ?_
      rcases List.mem_cons.mp hz with rfl | hz
      · exact fit_str (hrs r hr).1
      · rw [List.mem_singleton.mp hz]
        exact tr_fit (hrs r hr).2).ok (by omega)
    have sz : (4000 : Nat) ≤ sizeLine := by rw [sizeLine_eq]; omega
    refine x_start (e := [some (.own o), some (.f (.tup [.str "giver", .str a, .tup (rs.map rwD)])), none, none, none, none, none]) rfl ?_
    refine x_cut (fun e => ∃ o', Un o' (u + 1) ∧ e = [some (.own o'), some (.f (.tup [.str "giver", .str a, .tup (rs.map rwD)])), none, none, none, none, none]) ?_ ?_
    · walk_at "x"
      refine x_eqD (by decide +kernel) (by decide +kernel) ?_
      rw [show eqB (.str "giver") (.str "giver") = true by decide +kernel]
      walk_at "x"
      refine x_neD rfit (by decide +kernel) ?_
      rw [eqT_emp]
      cases hem : (rs.map rwD).isEmpty with
      | true =>
        walk_at "x"
        exact ⟨o, un.mono (by omega), rfl⟩
      | false =>
        have rpos : 0 < rs.length := by
          cases rs with
          | nil => cases hem
          | cons x l => exact Nat.succ_pos _
        walk_at "x"
        intro c1 o1 c10 c11 u1
        walk_at "x"
        refine x_iteD (fun hz => ?_) (fun hz => ?_)
        · walk_at "x"
          rw [List.length_map]
          walk_at "x"
          intro at_ o2 a0 a1 u2
          walk_at "x"
          obtain ⟨d0, e01, e02⟩ := atI_at (ds := rs.map rwD) a0 (by rw [List.length_map]; exact a1)
          rw [List.getElem?_map] at e02
          obtain ⟨r, hr0, rfl⟩ := Option.map_eq_some_iff.mp e02
          have rm := List.mem_of_getElem? hr0
          refine x_ixT e01 ?_
          rw [rw_parts]
          walk_at "x"
          refine ⟨oo, ns, ts, xs, cs ++ [(a, r.1)], n, u + 2, r.2, rfl, by omega, wd, csIn_snoc wd ci hnx ((hy.mem r.1).mp (List.mem_map_of_mem rm)), (hrs r rm).2, hvr r rm, u2, by omega, fun l o3 hl hb u3 => ?_⟩
          walk_at "x"
          have il : at_.toNat < rs.length := by omega
          have key : ∀ x, Bd oo ts xs n (cs ++ [(a, r.1)]) x → Bd oo ts xs (n + 1) cs (.tup [.str "giver", .str a, .tup ((rs.map rwD).take at_.toNat ++ [.tup [.str r.1, x]] ++ (rs.map rwD).drop (at_.toNat + 1))]) := fun x hx => by
            refine .inr ⟨a, _, rfl, ha, hnx, rs.map (·.1), rs.take at_.toNat, r.1, x, (rs.drop (at_.toNat + 1)).map rwD, ?_, hy, ?_, ?_, fun z hz => ⟨(hrs z (List.mem_of_mem_take hz)).2, hvr z (List.mem_of_mem_take hz)⟩, hx⟩
            · rw [List.append_assoc, List.map_take, List.map_drop]; rfl
            · rw [List.length_map, List.length_map, List.length_take, List.length_drop]; omega
            · rw [List.length_take, Nat.min_eq_left (by omega), List.map_take, Fx.take_snoc (l := rs.map (·.1)) (by rw [List.getElem?_map, hr0]; rfl)]
          refine ⟨by omega, fun i acc e => acc.length = i ∧ (∀ x ∈ acc, Bd oo ts xs (n + 1) cs x) ∧ ∃ x6, e = [some (.own o3), some (.f (.tup [.str "giver", .str a, .tup (rs.map rwD)])), some (.f (.int at_)), some (.f (.str r.1)), some (.f r.2), some (.f (.lst l)), x6], ⟨rfl, nofun, _, rfl⟩, ?_, ?_⟩
          · rintro i d acc e hd ⟨rfl, hacc, x6, rfl⟩
            refine ⟨_, rfl, ?_⟩
            dsimp only [List.map_cons, List.map_nil, wipeE, setE, Tgt.js, List.set_cons_zero, List.set_cons_succ]
            walk_at "x"
            refine x_slT (cut_to a0 (by rw [List.length_map]; omega)) ?_
            walk_at "x"
            refine x_addT (by rw [List.length_take, List.length_map, List.length_singleton]; omega) ?_
            walk_at "x"
            refine x_slT (cut_from (by omega) (by rw [List.length_map]; omega)) ?_
            walk_at "x"
            refine x_addT (by rw [List.length_append, List.length_take, List.length_drop, List.length_map, List.length_singleton]; omega) ?_
            walk_at "x"
            rw [show (at_ + 1).toNat = at_.toNat + 1 by omega]
            refine ⟨by rw [List.length_append]; rfl, fun x hx => ?_, _, rfl⟩
            rcases List.mem_append.mp hx with hx | hx
            · exact hacc x hx
            · rw [List.mem_singleton.mp hx]; exact key d (hb d (List.mem_of_getElem? hd))
          · rintro acc e ⟨hal, hacc, x6, rfl⟩
            exact ⟨_, _, rfl, rfl, nofun, Nat.le_of_ble_eq_true rfl, o3, rfl, q acc o3 (by omega) hacc (u3.mono (by omega))⟩
        · walk_at "x"
          exact ⟨o1, u1, rfl⟩
    rintro e ⟨o1, u1, rfl⟩
    walk_at "x"
    refine ⟨n + 1, oo, ns, ts, xs, cs, _, rfl, wd, ci, ht, hv0, fun l hl hb => ?_⟩
    walk_at "x"
    exact q l o1 hl hb (u1.mono (by omega))
theorem ok_oddN (T : Txt K mg) (c__law_draw : Cal P w K mg base 1 "_law_draw" (spW K tabs (liftU wLot))) (c__law_odd_ones : Cal P w K mg base 1 "_law_odd_ones" (spW K tabs (liftF wOnes))) (A : At K mg "_law_odd" s__law_odd ["pool", "tree"]) : ∀ n, n ≤ 16 → Cal P w K mg base (n + 1) "_law_odd" (spW K tabs (liftU (wOdd n)))
  | 0, _ => ok_odd0 0 A
  | n + 1, h => ok_odd (k := n + 1) (by omega) (by omega) T (ok_oddN T c__law_draw c__law_odd_ones A n (by omega)) c__law_draw c__law_odd_ones A

end
end K80

namespace K80
open PySem PySem.Spec PyProof.Rows L2 Lk Evl Fx


local macro_rules | `(tactic| walk_at "sz") => `(tactic| first
  | exact Nat.le_of_ble_eq_true rfl
  | assumption
  | exact small_sz (Nat.le_of_ble_eq_true rfl)
  | (simp only [List.length_cons, List.length_nil, List.length_map, List.length_append]; first | omega | exact small_sz (by omega)))
local macro_rules | `(tactic| walk_at "x1") => `(tactic| first
  | with_reducible refine x_seq ?_
  | (with_reducible show wVar _ _ _); first | refine x_varF rfl ?_ | refine x_varO rfl ?_ | refine x_varV rfl ?_
  | with_reducible refine x_c ?_
  | with_reducible refine x_exf ?_
  | with_reducible refine x_excd ?_
  | (with_reducible show ∃ d1, Sl.cd (Sl.vw _) = some d1 ∧ _); refine x_excV rfl ?_
  | (with_reducible show ∃ d1, Sl.cd (Sl.own _) = some d1 ∧ _); refine x_excO rfl ?_
  | with_reducible refine x_binP ?_
  | with_reducible refine x_bin ?_
  | with_reducible refine x_adC ?_
  | with_reducible refine x_adN ?_
  | with_reducible refine x_lst ?_
  | with_reducible refine x_tup ?_
  | with_reducible refine x_lstO ?_
  | (with_reducible refine x_and (p := _ ≤ sizeLine) ?h ?_); (case h => walk_at "sz")
  | with_reducible refine x_callF ?_
  | with_reducible refine x_callL ?_
  | with_reducible refine x_listO ?_
  | with_reducible refine x_dstar ?_
  | with_reducible refine x_getN ?_
  | with_reducible refine x_ss ?_
  | with_reducible refine x_mulO ?_
  | with_reducible refine x_iZM ?_
  | (with_reducible show wCallU _ _ _ _ _); refine x_callU rfl ?_
  | with_reducible refine x_callV ?_
  | with_reducible refine x_join ?_
  | with_reducible refine x_waD ?_
  | with_reducible refine x_lc ?_
  | with_reducible refine x_lc2 ?_
  | with_reducible refine x_lenSets ?_
  | (with_reducible show wApp _ _ _ _); refine x_app rfl ?_
  | (with_reducible show wBinV _ _ _ _ _); refine x_binV rfl ?_
  | (with_reducible show wPopD _ _ _ _); refine x_popD rfl ?_
  | (with_reducible show wCatV _ _ _ _); refine x_catV rfl ?_
  | with_reducible refine x_slN2 ?_
  | with_reducible refine x_sortedSets ?_
  | with_reducible refine x_tplL ?_
  | with_reducible refine x_tplT ?_
  | with_reducible refine x_isB ?_
  | with_reducible refine x_r1 ?_
  | with_reducible refine x_r2 ?_
  | (with_reducible refine x_r1e ?h0 ?h1 ?_); (case h0 => omega); (case h1 => omega)
  | with_reducible refine x_iL ?_
  | with_reducible refine x_iT ?_
  | with_reducible refine x_iS ?_
  | with_reducible refine x_iE ?_
  | with_reducible refine x_iEe ?_
  | with_reducible refine x_yes ?_
  | with_reducible refine x_for ?_
  | (with_reducible show wLot _ [D.int _] _); (refine' x_lot (by assumption) ?h1 ?h2 ?h3 ?_); (case h1 => omega); (case h2 => first | decide | omega); (case h3 => first | decide | omega)
  | (with_reducible show ∃ o, _ = some (some (Sl.own o)) ∧ _); refine x_exO rfl ?_
  | with_reducible refine x_exo ?_
  | with_reducible refine x_ret ?_
  | with_reducible refine x_set ?_
  | with_reducible refine x_fin ?_
  | with_reducible refine x_fino ?_
  | (with_reducible refine x_and (p := _ < List.length _) ?h ?_); (case h => exact Nat.le_of_ble_eq_true rfl); (try dsimp only [List.set_cons_succ, List.set_cons_zero])
  | with_reducible refine x_next ?_
  | with_reducible refine x_retN ?_
  | with_reducible refine x_drop ?_
  | with_reducible refine x_asg ?_
  | (with_reducible refine x_gtp ?h ?_); (case h => rfl)
  | with_reducible refine x_gcons ?_
  | with_reducible refine x_gnil ?_
  | (with_reducible refine x_gn ?h ?_); (case h => exact Nat.le_of_ble_eq_true rfl); (try dsimp only [List.set_cons_succ, List.set_cons_zero])
  | with_reducible refine x_ifS ?_
  | with_reducible refine x_if ?_
  | with_reducible refine x_itT ?_
  | with_reducible refine x_itF ?_
  | with_reducible refine x_iteN ?_
  | with_reducible refine x_tru ?_
  | with_reducible refine x_tB ?_
  | with_reducible refine x_dtB ?_
  | with_reducible refine x_dtN ?_
  | with_reducible refine x_exb ?_
  | with_reducible refine x_exdb ?_
  | with_reducible refine x_tand ?_
  | with_reducible refine x_tor ?_
  | with_reducible refine x_tnot ?_
  | with_reducible refine x_and2 ?_
  | with_reducible refine x_or2 ?_
  | with_reducible refine x_not2 ?_
  | with_reducible refine x_chain ?_
  | with_reducible refine x_sub ?_
  | with_reducible refine x_addI ?_
  | (with_reducible refine x_addS ?h ?_); (case h => walk_at "sz")
  | (with_reducible refine x_addL ?h ?_); (case h => walk_at "sz")
  | (with_reducible refine x_addT ?h ?_); (case h => walk_at "sz")
  | with_reducible refine x_lt ?_
  | with_reducible refine x_le ?_
  | with_reducible refine x_gt ?_
  | with_reducible refine x_ge ?_
  | with_reducible refine x_ltS ?_
  | with_reducible refine x_eqI ?_
  | with_reducible refine x_neI ?_
  | with_reducible refine x_allSg ?_
  | with_reducible refine x_m0 ?_
  | with_reducible refine x_lstT ?_
  | with_reducible refine x_lstL ?_
  | with_reducible refine x_strB ?_
  | with_reducible refine x_strN ?_
  | with_reducible refine x_strS ?_
  | with_reducible refine x_isT ?_
  | with_reducible refine x_isI ?_
  | with_reducible refine x_neg ?_
  | with_reducible refine x_un ?_
  | (with_reducible refine x_pow ?h ?_); (case h => exact ⟨by decide, by decide +kernel⟩)
  | (with_reducible refine x_mod ?h ?_); (case h => first | decide | omega)
  | (with_reducible refine x_mul ?h ?_); (case h => exact mul_ok (by first | decide | omega) (by first | decide | omega))
  | (with_reducible refine x_div ?h ?_); (case h => exact div_ok (by first | decide | omega) (by first | decide | omega))
  | with_reducible refine x_ipA ?_
  | (with_reducible show wAugL _ _ _ _ _ _); refine x_augL rfl ?_
  | (with_reducible show wAug _ _ _ _ _); refine x_aug rfl ?_
  | (with_reducible show ∃ k' ds d, Sl.f (D.int _) = Sl.f (D.int k') ∧ _); refine x_augL1 rfl (by decide) rfl ?_
  | (with_reducible show ∃ k' j ds, Sl.f (D.int _) = Sl.f (D.int k') ∧ _ = some (some (Sl.own (O.lst ds))) ∧ ixN _ k' = some j ∧ _); refine x_setL1 rfl rfl ?_; (try dsimp only [List.set_cons_succ, List.set_cons_zero])
  | (with_reducible show ∃ ds j, _ = some (some (Sl.own (O.lst ds))) ∧ ixN _ _ = some j ∧ _); refine x_augL2 rfl rfl ?_; (try dsimp only [List.set_cons_succ, List.set_cons_zero])
  | (with_reducible show gSetL _ _ _ _ _); refine x_setL rfl ?_
  | (with_reducible show dIx (D.lst _) (D.int _) _); refine x_ixL rfl ?_
  | (with_reducible show dIx (D.tup _) (D.int _) _); refine x_ixT rfl ?_
  | with_reducible refine x_cb ?_
  | (with_reducible show wCB1 _ _ _ _); refine x_cb1 rfl rfl ?_
  | with_reducible refine x_fm ?_
  | with_reducible refine x_exl ?_
  | with_reducible refine x_ext ?_
  | with_reducible refine x_exs ?_
  | with_reducible refine x_exi ?_
  | with_reducible refine x_sl ?_
  | with_reducible refine x_slN ?_
  | with_reducible refine x_slS ?_
  | with_reducible refine x_frz ?_
  | with_reducible refine x_frL ?_
  | with_reducible refine x_revT ?_
  | with_reducible refine x_revL ?_
  | with_reducible refine x_splitO ?_
  | (with_reducible show wSlO _ _ _ _ _); refine x_slO rfl ?_
  | (with_reducible show ∃ ds2, _ = some (some (Sl.own (O.lst ds2))) ∧ _); refine x_exOl rfl ?_
  | with_reducible refine x_dictO ?_
  | with_reducible refine x_psC ?_
  | with_reducible refine x_psN ?_
  | with_reducible refine x_get ?_
  | (with_reducible show gSetSl _ _ _ _ _ _); refine x_setSl rfl ?_
  | with_reducible refine x_split ?_
  | with_reducible refine x_isN1 ?_
  | with_reducible refine x_isN0 rfl ?_
  | with_reducible refine x_iZ ?_
  | with_reducible refine x_zT ?_
  | with_reducible refine x_zL ?_
  | with_reducible refine x_stp ?_
  | with_reducible refine x_js ?_
  | with_reducible refine x_jsC ?_
  | with_reducible refine x_jsN ?_
  | with_reducible refine x_fmt ?_
  | with_reducible refine x_callFX ?_
  | (with_reducible refine x_glp ?h ?_); (case h => rfl)
  | with_reducible refine x_raiseR ?_
  | with_reducible refine x_row ?_
  | with_reducible refine x_lenL ?_
  | with_reducible refine x_lenT ?_
  | with_reducible refine x_lenD ?_
  | (with_reducible refine x_lenS ?h ?_); (case h => walk_at "sz")
  | with_reducible refine x_max ?_
  | with_reducible refine x_min ?_
  | with_reducible refine x_intI ?_
  | with_reducible refine x_intB ?_
  | (with_reducible refine x_isInt ?h ?_); (case h => first | assumption | exact part_ty (by assumption) | (intro _ hh; cases hh; done))
  | (with_reducible refine x_isBl ?h ?_); (case h => first | assumption | exact part_ty (by assumption) | (intro _ hh; cases hh; done))
  | (with_reducible refine x_isStr ?h ?_); (case h => first | assumption | exact part_ty (by assumption) | (intro _ hh; cases hh; done))
  | (with_reducible refine x_isTup ?h ?_); (case h => first | assumption | exact part_ty (by assumption) | (intro _ hh; cases hh; done))
  | (with_reducible refine x_isLst ?h ?_); (case h => first | assumption | exact part_ty (by assumption) | (intro _ hh; cases hh; done))
  | (with_reducible refine x_isDic ?h ?_); (case h => first | assumption | exact part_ty (by assumption) | (intro _ hh; cases hh; done))
  | (with_reducible refine x_itTe ?e ?_); (case e => rfl)
  | (with_reducible refine x_itFe ?e ?_); (case e => rfl)
  | with_reducible refine x_dnewO ?_
  | with_reducible refine x_dput ?_
  | with_reducible refine x_dix ?_
  | with_reducible refine x_sortedD ?_
  | with_reducible refine x_star ?_
  | with_reducible refine x_starT ?_
  | with_reducible refine x_frzD ?_
  | with_reducible refine x_sw ?_
  | with_reducible refine x_cnt ?_
  | with_reducible refine x_waC ?_
  | with_reducible refine x_waN ?_
  | with_reducible refine x_lenDD ?_
  | with_reducible refine x_allX ?_
  | (with_reducible show wFz _ _ _ _); refine x_fz rfl ?_
  | (with_reducible show wFzS _ _ _ _); refine x_fzS rfl ?_
  | (with_reducible show wFzO _ _ _ _); refine x_fzO rfl ?_
  | (with_reducible show wiK _ _ _); refine x_iK rfl ?_
  | (with_reducible show wiIt _ _ _); refine x_iIt rfl ?_
  | with_reducible refine x_iE1 ?_
  | with_reducible refine x_forR ?_
  | (with_reducible show wDIxV _ _ _ _); refine x_dixV rfl (cd_dicO _) ?_
  | (with_reducible show wDPop _ _ _ _); refine x_dpop rfl ?_
  | with_reducible refine x_pickO ?_
  | (with_reducible show wExt _ _ _ _); refine x_extO rfl ?_
  | with_reducible refine x_sortedR ?_
  | with_reducible refine x_sortedL ?_
  | with_reducible refine x_ixSt ?_
  | (with_reducible show wiVal _ _ _); refine x_iVal rfl ?_
  | with_reducible refine x_dictP ?_
  | with_reducible refine x_dictZip ?_
  | with_reducible refine x_revS ?_
  | with_reducible refine x_par ?_
  | (with_reducible show wIsiV _ _ _ _ _); refine x_isiV rfl ?_
  | ((with_reducible show _ ∧ _); refine And.intro (Nat.le_of_ble_eq_true rfl) ?_))
local macro_rules | `(tactic| walk_at "x") => `(tactic| repeat (walk_at "x1"))

section
variable {P : Program} {w : World} {K : PySem.W.Frag} {mg : Str → Option Value} {base : Heap} {tabs : List Addr}
theorem okT_of {oo : Str} {ts : List Ti} {xs : List Wi} (tr : TrOk oo ts xs) : OkT oo (ts.map Ti.d) (xs.map Wi.d) := by
  have tx : ∀ {a : Str}, nameB (.str a) = true → TxOk a := fun h => ⟨name_cp h, Nat.le_trans (name_len h) (by decide)⟩
  refine ⟨tx tr.hoo, fun t ht => ?_, fun t ht => ?_, ?_, ?_⟩
  · obtain ⟨y, hy, rfl⟩ := List.mem_map.mp ht
    have o := tr.hts y hy
    exact ⟨y.a, y.b, y.s, y.u, rfl, tx o.a, tx o.b⟩
  · obtain ⟨y, hy, rfl⟩ := List.mem_map.mp ht
    have o := tr.hxs y hy
    have d4 := deeds_four o.p
    obtain ⟨ds, e, od⟩ := deeds4_strs d4
    have l := (deeds4_tup d4).2.2.2.1
    rw [e] at l
    have l : (ds.map D.str).length ≤ 2 := l
    rw [List.length_map] at l
    exact ⟨y.a, ds, y.s, y.u, by rw [← e]; rfl, tx o.a, by omega, od⟩
  · rw [List.length_map]
    have := tr.tl
    omega
  · rw [List.length_map]
    have := tr.x6
    omega

/-! ### the law -/
theorem most_at {l : List D} {i : Nat} {d : D} (h : ∀ x ∈ l, ∃ o, x = mostD o) (hd : l[i]? = some d) : ∃ o, d = mostD o := h d (List.mem_of_getElem? hd)
def lone6 : List Str := ["alone", "lone", "lonely", "lorn", "sole", "solo"]
theorem lone6_names : ∀ y ∈ lone6, nameB (.str y) = true := by decide +kernel
theorem lone6_nodup : lone6.Nodup := by decide +kernel
theorem pick6 {xs : List Str} (hl : xs.length ≤ 5) : ∃ y r, lone6.filter (fun y => !xs.contains y) = y :: r ∧ y ∉ xs ∧ nameB (.str y) = true := by
  cases e : lone6.filter (fun y => !xs.contains y) with
  | nil =>
    have h := nodup_le (m := xs) lone6_nodup fun x hx => by
      by_cases hc : x ∈ xs
      · exact hc
      · have : x ∈ lone6.filter (fun y => !xs.contains y) := List.mem_filter.mpr ⟨hx, by simpa using hc⟩
        rw [e] at this
        cases this
    have l : lone6.length = 6 := rfl
    omega
  | cons y r =>
    refine ⟨y, r, rfl, ?_⟩
    have : y ∈ lone6.filter (fun y => !xs.contains y) := by rw [e]; exact List.mem_cons_self ..
    obtain ⟨h1, h2⟩ := List.mem_filter.mp this
    exact ⟨by simpa using h2, lone6_names y h1⟩
def loneW (al : Str) : Wi := ⟨al, .tup [.str "look"], 0, 9⟩
theorem oth_x {oo : Str} {ts : List Ti} {xs : List Wi} {x : Wi} (h : x ∈ xs) (ne : x.a ≠ oo) : x.a ∈ oths oo (ts.map Ti.d) (xs.map Wi.d) := by
  refine List.mem_filter.mpr ⟨List.mem_append_left _ (List.mem_append_left _ (List.mem_map.mpr ⟨_, List.mem_map_of_mem h, rfl⟩)), ?_⟩
  rw [bne, beq_false_of_ne ne]; rfl
theorem oth_t {oo : Str} {ts : List Ti} {xs : List Wi} {t : Ti} (h : t ∈ ts) (ne : t.b ≠ oo) : t.b ∈ oths oo (ts.map Ti.d) (xs.map Wi.d) := by
  refine List.mem_filter.mpr ⟨List.mem_append_right _ (List.mem_map.mpr ⟨_, List.mem_map_of_mem h, rfl⟩), ?_⟩
  rw [bne, beq_false_of_ne ne]; rfl
theorem oth_in {oo : Str} {nm : List Str} {ts : List Ti} {xs : List Wi} (am : Among (oo :: nm) ts xs) {y : Str} (h : y ∈ oths oo (ts.map Ti.d) (xs.map Wi.d)) : y ∈ nm := by
  obtain ⟨h1, h2⟩ := List.mem_filter.mp h
  have ne : y ≠ oo := by rintro rfl; rw [bne, beq_self_eq_true] at h2; cases h2
  have : y ∈ oo :: nm := by
    rcases List.mem_append.mp h1 with h1 | h1
    · rcases List.mem_append.mp h1 with h1 | h1
      · obtain ⟨d, hd, rfl⟩ := List.mem_map.mp h1
        obtain ⟨x, hx, rfl⟩ := List.mem_map.mp hd
        exact am.2 x hx
      · obtain ⟨d, hd, rfl⟩ := List.mem_map.mp h1
        obtain ⟨x, hx, rfl⟩ := List.mem_map.mp hd
        exact (am.1 x hx).1
    · obtain ⟨d, hd, rfl⟩ := List.mem_map.mp h1
      obtain ⟨x, hx, rfl⟩ := List.mem_map.mp hd
      exact (am.1 x hx).2
  exact (List.mem_cons.mp this).resolve_left ne
theorem lone_wd {oo : Str} {nm : List Str} {ts : List Ti} {xs : List Wi} {ys : List Str} {al : Str} (tr : TrOk oo ts xs) (am : Among (oo :: nm) ts xs) (nl : nm.length ≤ 4) (mem : ∀ y, y ∈ ys ↔ y ∈ oths oo (ts.map Ti.d) (xs.map Wi.d)) (ok : nameB (.str al) = true) (ha : al ∉ oo :: ys) :
    Wd oo (al :: nm) ts (xs ++ [loneW al]) ∧ Alone oo ts (xs ++ [loneW al]) [] al := by
  have no : al ≠ oo := fun e => ha (e ▸ List.mem_cons_self ..)
  have nx : ∀ x ∈ xs, x.a ≠ al := fun x hx e => ha (List.mem_cons_of_mem _ ((mem _).mpr (e ▸ oth_x hx (tr.no x hx))))
  have nt : ∀ t ∈ ts, t.b ≠ al := fun t ht e => ha (List.mem_cons_of_mem _ ((mem _).mpr (e ▸ oth_t ht (e ▸ no))))
  have xl : xs.length ≤ nm.length := by
    have := nodup_le (l := xs.map (·.a)) (m := nm) tr.nd fun y hy => by
      obtain ⟨x, hx, rfl⟩ := List.mem_map.mp hy
      exact oth_in am (oth_x hx (tr.no x hx))
    rwa [List.length_map] at this
  have two : ∀ (p : Wi → Prop), (∀ x ∈ xs, p x) → p (loneW al) → ∀ x ∈ xs ++ [loneW al], p x := fun p h1 h2 x hx => by
    rcases List.mem_append.mp hx with hx | hx
    · exact h1 x hx
    · rw [List.mem_singleton.mp hx]; exact h2
  refine ⟨⟨⟨tr.hoo, tr.hts, tr.tl, two _ tr.hxs ⟨ok, List.mem_cons_self .., (by show (0 : Int) ≤ 0; decide), (by show (0 : Int) < 9; decide), (by show (9 : Int) ≤ 1000000; decide)⟩, by rw [List.length_append]; exact Nat.le_add_left .., by rw [List.length_append]; exact (by show xs.length + 1 ≤ 6; omega), ?_, two _ tr.no no⟩, ⟨fun t ht => ?_, two _ (fun x hx => ?_) (List.mem_cons_of_mem _ (List.mem_cons_self ..))⟩, by rw [List.length_cons]; omega⟩, ⟨?_, no, nt, nofun⟩⟩
  · rw [List.map_append, List.nodup_append]
    refine ⟨tr.nd, List.pairwise_singleton _ _, fun a h b hb e => ?_⟩
    obtain ⟨x, hx, rfl⟩ := List.mem_map.mp h
    exact nx x hx (e.trans (List.mem_singleton.mp hb))
  · have w : ∀ {z : Str}, z ∈ oo :: nm → z ∈ oo :: al :: nm := fun h => by
      rcases List.mem_cons.mp h with rfl | h
      · exact List.mem_cons_self ..
      · exact List.mem_cons_of_mem _ (List.mem_cons_of_mem _ h)
    exact ⟨w (am.1 t ht).1, w (am.1 t ht).2⟩
  · rcases List.mem_cons.mp (am.2 x hx) with h | h
    · rw [h]; exact List.mem_cons_self ..
    · exact List.mem_cons_of_mem _ (List.mem_cons_of_mem _ h)
  · rw [List.map_append]; exact List.mem_append_right _ (List.mem_singleton.mpr rfl)
theorem fn_law (T : Txt K mg) (c_tree_holds : Cal P w K mg base 18 "tree_holds" (spW K tabs (liftF (wTreeH 5)))) (c__law_cell_at : Cal P w K mg base 1 "_law_cell_at" (spW K tabs (liftF wCellAt))) (c__law_pool : Cal P w K mg base 1 "_law_pool" (spW K tabs (liftF wUrn)))
    (c__law_trust : Cal P w K mg base 3 "_law_trust" (spW K tabs (liftU wTrustG))) (c__law_others : Cal P w K mg base 1 "_law_others" (spW K tabs (liftF wOthers)))
    (c__law_grown : Cal P w K mg base 8 "_law_grown" (spW K tabs (liftU (wGrown 6)))) (c__law_odd : Cal P w K mg base 7 "_law_odd" (spW K tabs (liftU (wOdd 6))))
    {f : Addr} {fd : FuncData} (F : Fun K "law" "law" s_law f fd) : FnOk P w K mg base CX0 19 f fd ["script"] (spW K tabs (liftF Fx.wLaw)) := by
  refine fx_fnF F sc_law (fun ds Q ⟨ns, h, _⟩ => by rw [h]; rfl) fun cdv A outer s H E TT P0 σ0 hcd hr => ⟨_, (gss_cons (gs_for PassesOwn.never rfl (gi_r1 rfl T.z_range (GD.ga (gd_cons (ge_cbB (cax_max2 rfl) (by rfl) T.z_max (by decide +kernel) (gd_cons (GE.of_pure gp_int) (gd_cons (ge_cbB (cax_min2 rfl) (by rfl) T.z_min (by decide +kernel) (gd_cons (GE.of_pure gp_int) (gd_cons (ge_cbB1 cax_len (by rfl) T.z_len (by decide +kernel) (pv 0)) gd_nil))) gd_nil))) gd_nil))) (gg_name (pg_name (i := 1) sc_law.nd rfl (Or.inl rfl)) rfl)
      (gss_cons (gs_setE (i := 2) sc_law.nd rfl (Or.inl rfl) (ge_callF c__law_pool hr (by first | decide | omega) rfl rfl rfl mono__law_pool (gd_cons (ge_callF c__law_cell_at hr (by first | decide | omega) rfl rfl rfl mono__law_cell_at (gd_cons (GE.of_pure (gp_var (pv 0))) (gd_cons (GE.of_pure (gp_var (pv 1))) gd_nil))) (gd_cons (GE.of_pure (gp_var (pv 1))) gd_nil))))
      (gss_cons (gs_asg (ge_callU c__law_trust hr (by first | decide | omega) rfl rfl rfl mono__law_trust (pv 2) (gd_cons (GE.of_pure gp_int) gd_nil)) (gg_tup (n := 3) rfl (ggs_cons (pg_name (i := 3) sc_law.nd rfl (Or.inl rfl)) rfl (ggs_cons (pg_name (i := 4) sc_law.nd rfl (Or.inl rfl)) rfl (ggs_cons (pg_name (i := 5) sc_law.nd rfl (Or.inl rfl)) rfl ggs_nil)))))
      (gss_cons (gs_setE (i := 6) sc_law.nd rfl (Or.inr rfl) (ge_op opx_add (ge_lstD (gd_cons (GE.of_pure (gp_var (pv 3))) gd_nil)) (ge_callF c__law_others hr (by first | decide | omega) rfl rfl rfl mono__law_others (gd_cons (ge_tupD (gd_cons (GE.of_pure (gp_var (pv 3))) (gd_cons (GE.of_pure (gp_var (pv 4))) (gd_cons (GE.of_pure (gp_var (pv 5))) gd_nil)))) gd_nil))))
      (gss_cons (gs_setE (i := 7) sc_law.nd rfl (Or.inl rfl) (ge_ix ixx (ge_frz (ge_lcR1 (own := [("word", 8)]) (t := .name 8) rfl sc_law.nd (gi_list (ge_lstD (gd_cons (GE.of_pure gp_str) (gd_cons (GE.of_pure gp_str) (gd_cons (GE.of_pure gp_str) (gd_cons (GE.of_pure gp_str) (gd_cons (GE.of_pure gp_str) (gd_cons (GE.of_pure gp_str) gd_nil)))))))) (blkOk_by (own := [("word", 8)]) (N := ["script", "k", "pool", "owner", "ties", "wishes", "names", "alone", "word", "trust", "tree", "most", "turn", "thing"]) (sc := defScope s_law) (by decide +kernel)) (fun _ _ _ _ _ => (pg_name (i := 8) sc_law.nd rfl (Or.inl rfl))) (fun _ _ _ _ _ => (gt_cmpP (opx_nin hr.u65) (gp_var (pv 8)) (gp_var (pv 6)) (by rfl))) (fun _ _ _ _ _ => (GE.of_pure (gp_var (pv 8)))) (by decide) (mem1 rfl) (mem1 (Nat.le_of_ble_eq_true rfl)))) (GE.of_pure gp_int) (fun _ _ => rfl)))
      (gss_cons (gs_setE (i := 9) sc_law.nd rfl (Or.inl rfl) (ge_tupD (gd_cons (GE.of_pure (gp_var (pv 3))) (gd_cons (GE.of_pure (gp_var (pv 4))) (gd_cons (ge_op opx_add (GE.of_pure (gp_var (pv 5))) (ge_tupD (gd_cons (ge_tupD (gd_cons (GE.of_pure (gp_var (pv 7))) (gd_cons (ge_tupD (gd_cons (GE.of_pure gp_str) gd_nil)) (gd_cons (GE.of_pure gp_int) (gd_cons (GE.of_pure gp_int) gd_nil))))) gd_nil))) gd_nil)))))
      (gss_cons (gs_setE (i := 10) sc_law.nd rfl (Or.inl rfl) (ge_callU c__law_grown hr (by first | decide | omega) rfl rfl rfl mono__law_grown (pv 2) (gd_cons (GE.of_pure (gp_var (pv 9))) (gd_cons (GE.of_pure gp_non) (gd_cons (ge_lstD gd_nil) gd_nil)))))
      (gss_cons (gs_for PassesOwn.never rfl (gi_list (ge_lstD (gd_cons (GE.of_pure gp_non) (gd_cons (GE.of_pure gp_int) (gd_cons (GE.of_pure gp_int) (gd_cons (GE.of_pure gp_int) gd_nil)))))) (gg_name (pg_name (i := 11) sc_law.nd rfl (Or.inl rfl)) rfl)
      (gss_one (gs_if (gt_cmp opx_notB (ge_callF c_tree_holds hr (by first | decide | omega) rfl rfl rfl mono_tree_holds (gd_cons (GE.of_pure (gp_var (pv 9))) (gd_cons (GE.of_pure (gp_var (pv 11))) (gd_cons (GE.of_pure (gp_var (pv 10))) gd_nil)))) (GE.of_pure gp_bl) (nomark _))
      (gss_one (gs_ret (GE.of_pure gp_bl)))
      gss_nil)))
      (gss_cons (gs_for PassesOwn.never rfl (gi_r1 rfl T.z_range (GD.ga (gd_cons (GE.of_pure gp_int) gd_nil))) (gg_name (pg_name (i := 12) sc_law.nd rfl (Or.inl rfl)) rfl)
      (gss_one (gs_for PassesOwn.never rfl (gi_list (ge_callU c__law_odd hr (by first | decide | omega) rfl rfl rfl mono__law_odd (pv 2) (gd_cons (GE.of_pure (gp_var (pv 10))) gd_nil))) (gg_name (pg_name (i := 13) sc_law.nd rfl (Or.inl rfl)) rfl)
      (gss_one (gs_if (gt_cmp opx_notB (ge_callF c_tree_holds hr (by first | decide | omega) rfl rfl rfl mono_tree_holds (gd_cons (GE.of_pure (gp_var (pv 9))) (gd_cons (GE.of_pure gp_non) (gd_cons (GE.of_pure (gp_var (pv 13))) gd_nil)))) (GE.of_pure gp_bl) (nomark _))
      (gss_one (gs_ret (GE.of_pure gp_bl)))
      gss_nil)))))
      (gss_one (gs_if (gt_cmp opx_notB (ge_callF c_tree_holds hr (by first | decide | omega) rfl rfl rfl mono_tree_holds (gd_cons (GE.of_pure (gp_var (pv 9))) (gd_cons (GE.of_pure gp_non) (gd_cons (GE.of_pure (gp_var (pv 10))) gd_nil)))) (GE.of_pure gp_bl) (nomark _))
      (gss_one (gs_ret (GE.of_pure gp_bl)))
      gss_nil)))))))))))
      (gss_one (gs_ret (GE.of_pure gp_bl)))), fun ds Q ⟨ns, h, hn, q⟩ => ?_⟩
  subst h
  refine x_start (e := [some (.f (.lst (ns.map D.int))), none, none, none, none, none, none, none, none, none, none, none, none, none]) rfl ?_
  walk_at "x"
  have hm : ∀ m : Int, (if (if m < 4 then m else 4) > 1 then (if m < 4 then m else 4) else 1) ≤ 4 := by
    intro m
    split <;> split <;> omega
  have hm := hm (ns.map D.int).length
  generalize (if (if (((ns.map D.int).length : Nat) : Int) < 4 then (((ns.map D.int).length : Nat) : Int) else 4) > 1 then (if (((ns.map D.int).length : Nat) : Int) < 4 then (((ns.map D.int).length : Nat) : Int) else 4) else 1) = many at hm
  refine ⟨fun i e => ∃ x1 x2 x3 x4 x5 x6 x7 x8 x9 xa xb xc xd, e = [some (.f (.lst (ns.map D.int))), x1, x2, x3, x4, x5, x6, x7, x8, x9, xa, xb, xc, xd], ⟨none, none, none, none, none, none, none, none, none, none, none, none, none, rfl⟩, ?_, ?_⟩
  · rintro i d e hd ⟨x1, x2, x3, x4, x5, x6, x7, x8, x9, xa, xb, xc, xd, rfl⟩
    obtain ⟨hi, rfl⟩ := rng_at hd
    walk_at "x"
    refine ⟨ns, _, rfl, hn, by omega, fun c => ?_⟩
    walk_at "x"
    refine ⟨c, _, rfl, by omega, by omega, fun o u => ?_⟩
    walk_at "x"
    refine ⟨0, 4, rfl, u, by omega, by omega, by omega, fun oo ts xs nm o1 tr am nl nn no u1 => ?_⟩
    have nl4 : nm.length ≤ 4 := by omega
    rw [show trustD oo ts xs = .tup [.str oo, .tup (ts.map Ti.d), .tup (xs.map Wi.d)] from rfl]
    walk_at "x"
    refine ⟨oo, ts.map Ti.d, xs.map Wi.d, rfl, okT_of tr, fun ys ye hy mem => ?_⟩
    have yl : (oo :: ys).length ≤ 5 := by
      rw [List.length_cons, ye]
      have := dst_le (ys := nm) fun y h => oth_in (y := y) am h
      omega
    have okn : ∀ y ∈ oo :: ys, PyData.strOk y = true := fun y h => by
      rcases List.mem_cons.mp h with rfl | h
      · exact name_cp tr.hoo
      · exact (hy y h).1
    have yl4 : ys.length ≤ 4 := by rw [List.length_cons] at yl; omega
    have sz : (4000 : Nat) ≤ sizeLine := by rw [sizeLine_eq]; omega
    walk_at "x"
    rw [show [D.str oo] ++ ys.map D.str = (oo :: ys).map D.str from rfl]
    refine ⟨fun j acc e => acc = ((lone6.take j).filter fun y => !(oo :: ys).contains y).map D.str ∧ ∃ z8, e = [some (.f (.lst (ns.map D.int))), some (.f (.int (i : Nat))), some (.own o1), some (.f (.str oo)), some (.f (.tup (ts.map Ti.d))), some (.f (.tup (xs.map Wi.d))), some (.f (.lst ((oo :: ys).map D.str))), x7, z8, x9, xa, xb, xc, xd], ⟨rfl, _, rfl⟩, ?_, ?_⟩
    · rintro j d acc e hd ⟨rfl, z8, rfl⟩
      have hd : (lone6.map D.str)[j]? = some d := hd
      obtain ⟨y, hy, rfl⟩ := at_map hd
      refine ⟨_, rfl, ?_⟩
      dsimp only [List.map_cons, List.map_nil, wipeE, setE, Tgt.js, List.set_cons_zero, List.set_cons_succ]
      walk_at "x"
      have oky : PyData.strOk y = true := name_cp (lone6_names y (List.mem_of_getElem? hy))
      refine ⟨okPy_str oky, okPy_strs okn, ?_⟩
      have e : (if true = true then !(D.pyL ((oo :: ys).map D.str)).any fun z => z.eqv (D.str y).py else (D.pyL ((oo :: ys).map D.str)).any fun z => z.eqv (D.str y).py) = !(oo :: ys).contains y := by
        rw [if_pos rfl, ← mem_strs]
        rfl
      rw [e]
      refine ⟨_, rfl, ?_⟩
      cases hc : (oo :: ys).contains y with
      | true =>
        rw [Bool.not_true, if_neg Bool.false_ne_true]
        exact ⟨by rw [take_snoc hy, List.filter_append, List.filter_cons_of_neg (by rw [hc]; decide), List.filter_nil, List.append_nil], _, rfl⟩
      | false =>
        rw [Bool.not_false, if_pos rfl]
        walk_at "x"
        exact ⟨by rw [take_snoc hy, List.filter_append, List.filter_cons_of_pos (by rw [hc]; rfl), List.filter_nil, List.map_append]; rfl, _, rfl⟩
    rintro acc e ⟨rfl, z8, rfl⟩
    rw [show ([D.str "alone", D.str "lone", D.str "lonely", D.str "lorn", D.str "sole", D.str "solo"] : List D).length = lone6.length from rfl, List.take_length]
    obtain ⟨al, r, hp, yn, yb⟩ := pick6 (xs := oo :: ys) yl
    rw [hp]
    have xl6 := tr.x6
    obtain ⟨wd, alo⟩ := lone_wd tr am nl4 mem yb yn
    walk_at "x"
    refine x_ixL (d := .str al) (L2.atI_nat (xs := (al :: r).map D.str) (j := 0) rfl) ?_
    walk_at "x"
    rw [show xs.map Wi.d ++ [D.tup [.str al, .tup [.str "look"], .int 0, .int 9]] = (xs ++ [loneW al]).map Wi.d by rw [List.map_append]; rfl]
    try dsimp only [List.map_cons, List.map_nil, wipeE, List.set_cons_zero, List.set_cons_succ]
    have c5 : cost79 5 = 18662 := by decide
    refine ⟨_, oo, al :: nm, ts, xs ++ [loneW al], al, [], rfl, wd, by rw [List.length_cons]; omega, csIn_nil oo _, nofun, alo, by simp only [List.length_cons, List.length_nil]; omega, u1, by rw [c5]; omega, fun tree o2 ht hh u2 => ?_⟩
    rw [c5] at u2
    walk_at "x"
    refine ⟨fun j e => ∃ z11, e = [some (.f (.lst (ns.map D.int))), some (.f (.int (i : Nat))), some (.own o2), some (.f (.str oo)), some (.f (.tup (ts.map Ti.d))), some (.f (.tup (xs.map Wi.d))), some (.f (.lst ((oo :: ys).map D.str))), some (.f (.str al)), none, some (.f (.tup [.str oo, .tup (ts.map Ti.d), .tup ((xs ++ [loneW al]).map Wi.d)])), some (.f tree), z11, xc, xd], ⟨_, rfl⟩, ?_, ?_⟩
    · rintro j d e hd2 ⟨z11, rfl⟩
      obtain ⟨most, rfl⟩ := most_at (by
        intro x hx
        simp only [List.mem_cons, List.not_mem_nil, or_false] at hx
        rcases hx with rfl | rfl | rfl | rfl
        · exact ⟨none, rfl⟩
        all_goals exact ⟨some _, rfl⟩) hd2
      walk_at "x"
      refine ⟨oo, al :: nm, ts, xs ++ [loneW al], most, tree, rfl, wd, .inl ⟨ht, ?_⟩⟩
      rw [hh most]
      walk_at "x"
      exact ⟨_, rfl⟩
    rintro e ⟨z11, rfl⟩
    walk_at "x"
    refine ⟨fun j e => ∃ (o' : O) (z12 z13 : Option Sl), Un o' (20000 + 100 * j) ∧ e = [some (.f (.lst (ns.map D.int))), some (.f (.int (i : Nat))), some (.own o'), some (.f (.str oo)), some (.f (.tup (ts.map Ti.d))), some (.f (.tup (xs.map Wi.d))), some (.f (.lst ((oo :: ys).map D.str))), some (.f (.str al)), none, some (.f (.tup [.str oo, .tup (ts.map Ti.d), .tup ((xs ++ [loneW al]).map Wi.d)])), some (.f tree), z11, z12, z13], ⟨_, _, _, u2.mono (by omega), rfl⟩, ?_, ?_⟩
    · rintro j d e hd2 ⟨o3, z12, z13, u3, rfl⟩
      obtain ⟨hj, rfl⟩ := rng_at hd2
      have hj : j < 3 := hj
      walk_at "x"
      refine ⟨oo, al :: nm, ts, xs ++ [loneW al], [], 5, _, tree, rfl, by decide, wd, csIn_nil oo _, ht, hh none, u3, by omega, fun l o4 hl hb u4 => ?_⟩
      walk_at "x"
      refine ⟨fun m e => ∃ z13, e = [some (.f (.lst (ns.map D.int))), some (.f (.int (i : Nat))), some (.own o4), some (.f (.str oo)), some (.f (.tup (ts.map Ti.d))), some (.f (.tup (xs.map Wi.d))), some (.f (.lst ((oo :: ys).map D.str))), some (.f (.str al)), none, some (.f (.tup [.str oo, .tup (ts.map Ti.d), .tup ((xs ++ [loneW al]).map Wi.d)])), some (.f tree), z11, some (.f (.int (j : Nat))), z13], ⟨_, rfl⟩, ?_, ?_⟩
      · rintro m d e hd3 ⟨z13, rfl⟩
        have bd := hb d (List.mem_of_getElem? hd3)
        walk_at "x"
        refine ⟨oo, al :: nm, ts, xs ++ [loneW al], none, d, rfl, wd, .inr ⟨rfl, bd, ?_⟩⟩
        walk_at "x"
        exact ⟨_, rfl⟩
      · rintro e ⟨z13, rfl⟩
        walk_at "x"
        exact ⟨o4, _, _, u4.mono (by omega), rfl⟩
    rintro e ⟨o3, z12, z13, u3, rfl⟩
    walk_at "x"
    refine ⟨oo, al :: nm, ts, xs ++ [loneW al], none, tree, rfl, wd, .inl ⟨ht, ?_⟩⟩
    rw [hh none]
    walk_at "x"
    exact ⟨_, _, _, _, _, _, _, _, _, _, _, _, _, rfl⟩
  · rintro e ⟨x1, x2, x3, x4, x5, x6, x7, x8, x9, xa, xb, xc, xd, rfl⟩
    walk_at "x"
    exact q

end
end K80

namespace K80
open PySem PySem.Spec PyProof.Rows L2 Lk Evl Fx


section
theorem glue {l : PySem.W.OpenLaw} {w : World} {K : PySem.W.Frag} {h : Heap} {mg : Str → Option Value} {fa : Addr} {fd : FuncData} (T : Txt K mg)
    (A1 : At K mg "next_actor" s_next_actor ["trust", "settled"]) (A2 : At K mg "givers_to" s_givers_to ["trust", "actor"]) (A3 : At K mg "is_full" s_is_full ["trust", "most", "settled"]) (A4 : At K mg "is_in_ring" s_is_in_ring ["settled", "actor"]) (A5 : At K mg "lacks_time" s_lacks_time ["trust", "settled", "actor"]) (A6 : At K mg "_bears" s__bears ["tie", "wishes"]) (A7 : At K mg "_above" s__above ["settled", "actor"]) (A8 : At K mg "tree_holds" s_tree_holds ["trust", "most", "tree"]) (A9 : At K mg "_holds" s__holds ["trust", "most", "settled", "tree"]) (A10 : At K mg "_bars" s__bars ["trust", "most", "settled", "bar"]) (A11 : At K mg "_goes_on" s__goes_on ["trust", "most", "settled", "tree"]) (A12 : At K mg "_law_cell_at" s__law_cell_at ["script", "k"]) (A13 : At K mg "_law_pool" s__law_pool ["cell", "place"]) (A14 : At K mg "_law_draw" s__law_draw ["pool", "many"]) (A15 : At K mg "_law_names" s__law_names ["pool", "many"]) (A16 : At K mg "_law_span" s__law_span ["pool", "way"]) (A17 : At K mg "_law_trust" s__law_trust ["pool", "most"]) (A18 : At K mg "_law_others" s__law_others ["trust"]) (A19 : At K mg "_law_lies" s__law_lies ["trust", "giver", "holder", "since", "until"]) (A20 : At K mg "_law_next" s__law_next ["trust", "case"]) (A21 : At K mg "_law_comes" s__law_comes ["case", "first", "goal"]) (A22 : At K mg "_law_late" s__law_late ["trust", "case", "actor"]) (A23 : At K mg "_law_tied" s__law_tied ["trust", "actor"]) (A24 : At K mg "_law_grown" s__law_grown ["pool", "trust", "most", "case"]) (A25 : At K mg "_law_odd_ones" s__law_odd_ones ["tree"]) (A26 : At K mg "_law_odd" s__law_odd ["pool", "tree"])
    (F : Fun K "law" "law" s_law fa fd) (hb : ∀ (s : Shared) (u : Value), BindsTo s fd ⟨[u], []⟩ [("script", u)]) : LawAt l w K 19 63 "script" mg h fa := by
  refine law_at (cs := []) nofun nofun nofun hb fun base _ _ TB => ?_
  show FnOk l.prog w K mg base CX0 19 fa fd ["script"] (spW K [] (liftF Fx.wLaw))
  have c_above := ok_above (P := l.prog) (w := w) (base := base) (tabs := []) T A7
  have c_ring := ok_ring T c_above A4
  have c_bears := ok_bears (P := l.prog) (w := w) (base := base) (tabs := []) T A6
  have c_lacks := ok_lacks T c_above c_bears A5
  have c_next := ok_nexta (P := l.prog) (w := w) (base := base) (tabs := []) T A1
  have c_givers := ok_givers (P := l.prog) (w := w) (base := base) (tabs := []) T A2
  have c_full := ok_full T c_next A3
  have c_bars := ok_bars T c_full c_ring c_lacks A10
  have c_holds := ok_holdsN T c_bars c_next c_givers A9 A11 6
  have c_tree := ok_treeh T c_holds A8
  have c_cell := ok_cell_at (P := l.prog) (w := w) (base := base) (tabs := []) T A12
  have c_pool := ok_pool (P := l.prog) (w := w) (base := base) (tabs := []) T A13
  have c_draw := ok_draw (P := l.prog) (w := w) (mg := mg) (base := base) (tabs := []) A14
  have c_names := ok_names T c_draw A15
  have c_lspan := ok_lspan c_draw A16
  have c_tg := ok_trustg T c_draw c_names c_lspan A17
  have c_others := ok_others (P := l.prog) (w := w) (base := base) (tabs := []) T A18
  have c_llies := ok_llies (P := l.prog) (w := w) (base := base) (tabs := []) T A19
  have c_lnext := ok_next (P := l.prog) (w := w) (base := base) (tabs := []) T A20
  have c_comes := ok_comes (P := l.prog) (w := w) (base := base) (tabs := []) T A21
  have c_late := ok_late T c_comes c_llies A22
  have c_tied := ok_tied (P := l.prog) (w := w) (base := base) (tabs := []) T A23
  have c_grown := ok_grownN T c_draw c_lnext c_late c_comes c_tied A24 6 (by decide)
  have c_ones := ok_ones (P := l.prog) (w := w) (base := base) (tabs := []) T A25
  have c_odd := ok_oddN T c_draw c_ones A26 6 (by decide)
  exact fn_law T c_tree c_cell c_pool c_tg c_others c_grown c_odd F
end
theorem all_mk {l : PySem.W.OpenLaw} {w : World} {K : PySem.W.Frag} {h : Heap} {mg : Str → Option Value} {fa : Addr} (KX : K.In h) (G : h.Ns mainGlobals mg) (hfa : mg "law" = some (.ref fa))
    {f1 f2 f3 f4 f5 f6 f7 f8 f9 f10 f11 f12 f13 f14 f15 f16 f17 f18 f19 f20 f21 f22 f23 f24 f25 f26 f27 : Addr} {od1 an1 od2 an2 od3 an3 od4 an4 od5 an5 od6 an6 od7 an7 od8 an8 od9 an9 od10 an10 od11 an11 od12 an12 od13 an13 od14 an14 od15 an15 od16 an16 od17 an17 od18 an18 od19 an19 od20 an20 od21 an21 od22 an22 od23 an23 od24 an24 od25 an25 od26 an26 od27 an27 : Option Addr} {sl1 sl2 sl3 sl4 sl5 sl6 sl7 sl8 sl9 sl10 sl11 sl12 sl13 sl14 sl15 sl16 sl17 sl18 sl19 sl20 sl21 sl22 sl23 sl24 sl25 sl26 sl27 : Array (Option Value)}
    {oc1 kV1 dc1 pm1 ct1 cd1 oc2 kV2 dc2 pm2 ct2 cd2 oc3 kV3 dc3 pm3 ct3 cd3 oc4 kV4 dc4 pm4 ct4 cd4 oc5 kV5 dc5 pm5 ct5 cd5 oc6 kV6 dc6 pm6 ct6 cd6 oc7 kV7 dc7 pm7 ct7 cd7 oc8 kV8 dc8 pm8 ct8 cd8 oc9 kV9 dc9 pm9 ct9 cd9 oc10 kV10 dc10 pm10 ct10 cd10 oc11 kV11 dc11 pm11 ct11 cd11 oc12 kV12 dc12 pm12 ct12 cd12 oc13 kV13 dc13 pm13 ct13 cd13 oc14 kV14 dc14 pm14 ct14 cd14 oc15 kV15 dc15 pm15 ct15 cd15 oc16 kV16 dc16 pm16 ct16 cd16 oc17 kV17 dc17 pm17 ct17 cd17 oc18 kV18 dc18 pm18 ct18 cd18 oc19 kV19 dc19 pm19 ct19 cd19 oc20 kV20 dc20 pm20 ct20 cd20 oc21 kV21 dc21 pm21 ct21 cd21 oc22 kV22 dc22 pm22 ct22 cd22 oc23 kV23 dc23 pm23 ct23 cd23 oc24 kV24 dc24 pm24 ct24 cd24 oc25 kV25 dc25 pm25 ct25 cd25 oc26 kV26 dc26 pm26 ct26 cd26 oc27 kV27 dc27 pm27 ct27 cd27 : Value}
    (a1 : PySem.W.nsIn K mainGlobals "next_actor" = some (some (.ref f1)))
    (l1 : K.lookup f1 = some ⟨oc1, od1, .func (PySem.W.fnOf "next_actor" "next_actor" (defArgs s_next_actor) (defBody s_next_actor) (defScope s_next_actor) .none kV1 dc1 pm1 an1 cd1 ct1), sl1⟩)
    (c1 : PySem.W.codeIn K cd1 "next_actor" = true)
    (k1 : PySem.W.keepIn K (.ref f1) = true)
    (a2 : PySem.W.nsIn K mainGlobals "givers_to" = some (some (.ref f2)))
    (l2 : K.lookup f2 = some ⟨oc2, od2, .func (PySem.W.fnOf "givers_to" "givers_to" (defArgs s_givers_to) (defBody s_givers_to) (defScope s_givers_to) .none kV2 dc2 pm2 an2 cd2 ct2), sl2⟩)
    (c2 : PySem.W.codeIn K cd2 "givers_to" = true)
    (k2 : PySem.W.keepIn K (.ref f2) = true)
    (a3 : PySem.W.nsIn K mainGlobals "is_full" = some (some (.ref f3)))
    (l3 : K.lookup f3 = some ⟨oc3, od3, .func (PySem.W.fnOf "is_full" "is_full" (defArgs s_is_full) (defBody s_is_full) (defScope s_is_full) .none kV3 dc3 pm3 an3 cd3 ct3), sl3⟩)
    (c3 : PySem.W.codeIn K cd3 "is_full" = true)
    (k3 : PySem.W.keepIn K (.ref f3) = true)
    (a4 : PySem.W.nsIn K mainGlobals "is_in_ring" = some (some (.ref f4)))
    (l4 : K.lookup f4 = some ⟨oc4, od4, .func (PySem.W.fnOf "is_in_ring" "is_in_ring" (defArgs s_is_in_ring) (defBody s_is_in_ring) (defScope s_is_in_ring) .none kV4 dc4 pm4 an4 cd4 ct4), sl4⟩)
    (c4 : PySem.W.codeIn K cd4 "is_in_ring" = true)
    (k4 : PySem.W.keepIn K (.ref f4) = true)
    (a5 : PySem.W.nsIn K mainGlobals "lacks_time" = some (some (.ref f5)))
    (l5 : K.lookup f5 = some ⟨oc5, od5, .func (PySem.W.fnOf "lacks_time" "lacks_time" (defArgs s_lacks_time) (defBody s_lacks_time) (defScope s_lacks_time) .none kV5 dc5 pm5 an5 cd5 ct5), sl5⟩)
    (c5 : PySem.W.codeIn K cd5 "lacks_time" = true)
    (k5 : PySem.W.keepIn K (.ref f5) = true)
    (a6 : PySem.W.nsIn K mainGlobals "_bears" = some (some (.ref f6)))
    (l6 : K.lookup f6 = some ⟨oc6, od6, .func (PySem.W.fnOf "_bears" "_bears" (defArgs s__bears) (defBody s__bears) (defScope s__bears) .none kV6 dc6 pm6 an6 cd6 ct6), sl6⟩)
    (c6 : PySem.W.codeIn K cd6 "_bears" = true)
    (k6 : PySem.W.keepIn K (.ref f6) = true)
    (a7 : PySem.W.nsIn K mainGlobals "_above" = some (some (.ref f7)))
    (l7 : K.lookup f7 = some ⟨oc7, od7, .func (PySem.W.fnOf "_above" "_above" (defArgs s__above) (defBody s__above) (defScope s__above) .none kV7 dc7 pm7 an7 cd7 ct7), sl7⟩)
    (c7 : PySem.W.codeIn K cd7 "_above" = true)
    (k7 : PySem.W.keepIn K (.ref f7) = true)
    (a8 : PySem.W.nsIn K mainGlobals "tree_holds" = some (some (.ref f8)))
    (l8 : K.lookup f8 = some ⟨oc8, od8, .func (PySem.W.fnOf "tree_holds" "tree_holds" (defArgs s_tree_holds) (defBody s_tree_holds) (defScope s_tree_holds) .none kV8 dc8 pm8 an8 cd8 ct8), sl8⟩)
    (c8 : PySem.W.codeIn K cd8 "tree_holds" = true)
    (k8 : PySem.W.keepIn K (.ref f8) = true)
    (a9 : PySem.W.nsIn K mainGlobals "_holds" = some (some (.ref f9)))
    (l9 : K.lookup f9 = some ⟨oc9, od9, .func (PySem.W.fnOf "_holds" "_holds" (defArgs s__holds) (defBody s__holds) (defScope s__holds) .none kV9 dc9 pm9 an9 cd9 ct9), sl9⟩)
    (c9 : PySem.W.codeIn K cd9 "_holds" = true)
    (k9 : PySem.W.keepIn K (.ref f9) = true)
    (a10 : PySem.W.nsIn K mainGlobals "_bars" = some (some (.ref f10)))
    (l10 : K.lookup f10 = some ⟨oc10, od10, .func (PySem.W.fnOf "_bars" "_bars" (defArgs s__bars) (defBody s__bars) (defScope s__bars) .none kV10 dc10 pm10 an10 cd10 ct10), sl10⟩)
    (c10 : PySem.W.codeIn K cd10 "_bars" = true)
    (k10 : PySem.W.keepIn K (.ref f10) = true)
    (a11 : PySem.W.nsIn K mainGlobals "_goes_on" = some (some (.ref f11)))
    (l11 : K.lookup f11 = some ⟨oc11, od11, .func (PySem.W.fnOf "_goes_on" "_goes_on" (defArgs s__goes_on) (defBody s__goes_on) (defScope s__goes_on) .none kV11 dc11 pm11 an11 cd11 ct11), sl11⟩)
    (c11 : PySem.W.codeIn K cd11 "_goes_on" = true)
    (k11 : PySem.W.keepIn K (.ref f11) = true)
    (a12 : PySem.W.nsIn K mainGlobals "_law_cell_at" = some (some (.ref f12)))
    (l12 : K.lookup f12 = some ⟨oc12, od12, .func (PySem.W.fnOf "_law_cell_at" "_law_cell_at" (defArgs s__law_cell_at) (defBody s__law_cell_at) (defScope s__law_cell_at) .none kV12 dc12 pm12 an12 cd12 ct12), sl12⟩)
    (c12 : PySem.W.codeIn K cd12 "_law_cell_at" = true)
    (k12 : PySem.W.keepIn K (.ref f12) = true)
    (a13 : PySem.W.nsIn K mainGlobals "_law_pool" = some (some (.ref f13)))
    (l13 : K.lookup f13 = some ⟨oc13, od13, .func (PySem.W.fnOf "_law_pool" "_law_pool" (defArgs s__law_pool) (defBody s__law_pool) (defScope s__law_pool) .none kV13 dc13 pm13 an13 cd13 ct13), sl13⟩)
    (c13 : PySem.W.codeIn K cd13 "_law_pool" = true)
    (k13 : PySem.W.keepIn K (.ref f13) = true)
    (a14 : PySem.W.nsIn K mainGlobals "_law_draw" = some (some (.ref f14)))
    (l14 : K.lookup f14 = some ⟨oc14, od14, .func (PySem.W.fnOf "_law_draw" "_law_draw" (defArgs s__law_draw) (defBody s__law_draw) (defScope s__law_draw) .none kV14 dc14 pm14 an14 cd14 ct14), sl14⟩)
    (c14 : PySem.W.codeIn K cd14 "_law_draw" = true)
    (k14 : PySem.W.keepIn K (.ref f14) = true)
    (a15 : PySem.W.nsIn K mainGlobals "_law_names" = some (some (.ref f15)))
    (l15 : K.lookup f15 = some ⟨oc15, od15, .func (PySem.W.fnOf "_law_names" "_law_names" (defArgs s__law_names) (defBody s__law_names) (defScope s__law_names) .none kV15 dc15 pm15 an15 cd15 ct15), sl15⟩)
    (c15 : PySem.W.codeIn K cd15 "_law_names" = true)
    (k15 : PySem.W.keepIn K (.ref f15) = true)
    (a16 : PySem.W.nsIn K mainGlobals "_law_span" = some (some (.ref f16)))
    (l16 : K.lookup f16 = some ⟨oc16, od16, .func (PySem.W.fnOf "_law_span" "_law_span" (defArgs s__law_span) (defBody s__law_span) (defScope s__law_span) .none kV16 dc16 pm16 an16 cd16 ct16), sl16⟩)
    (c16 : PySem.W.codeIn K cd16 "_law_span" = true)
    (k16 : PySem.W.keepIn K (.ref f16) = true)
    (a17 : PySem.W.nsIn K mainGlobals "_law_trust" = some (some (.ref f17)))
    (l17 : K.lookup f17 = some ⟨oc17, od17, .func (PySem.W.fnOf "_law_trust" "_law_trust" (defArgs s__law_trust) (defBody s__law_trust) (defScope s__law_trust) .none kV17 dc17 pm17 an17 cd17 ct17), sl17⟩)
    (c17 : PySem.W.codeIn K cd17 "_law_trust" = true)
    (k17 : PySem.W.keepIn K (.ref f17) = true)
    (a18 : PySem.W.nsIn K mainGlobals "_law_others" = some (some (.ref f18)))
    (l18 : K.lookup f18 = some ⟨oc18, od18, .func (PySem.W.fnOf "_law_others" "_law_others" (defArgs s__law_others) (defBody s__law_others) (defScope s__law_others) .none kV18 dc18 pm18 an18 cd18 ct18), sl18⟩)
    (c18 : PySem.W.codeIn K cd18 "_law_others" = true)
    (k18 : PySem.W.keepIn K (.ref f18) = true)
    (a19 : PySem.W.nsIn K mainGlobals "_law_lies" = some (some (.ref f19)))
    (l19 : K.lookup f19 = some ⟨oc19, od19, .func (PySem.W.fnOf "_law_lies" "_law_lies" (defArgs s__law_lies) (defBody s__law_lies) (defScope s__law_lies) .none kV19 dc19 pm19 an19 cd19 ct19), sl19⟩)
    (c19 : PySem.W.codeIn K cd19 "_law_lies" = true)
    (k19 : PySem.W.keepIn K (.ref f19) = true)
    (a20 : PySem.W.nsIn K mainGlobals "_law_next" = some (some (.ref f20)))
    (l20 : K.lookup f20 = some ⟨oc20, od20, .func (PySem.W.fnOf "_law_next" "_law_next" (defArgs s__law_next) (defBody s__law_next) (defScope s__law_next) .none kV20 dc20 pm20 an20 cd20 ct20), sl20⟩)
    (c20 : PySem.W.codeIn K cd20 "_law_next" = true)
    (k20 : PySem.W.keepIn K (.ref f20) = true)
    (a21 : PySem.W.nsIn K mainGlobals "_law_comes" = some (some (.ref f21)))
    (l21 : K.lookup f21 = some ⟨oc21, od21, .func (PySem.W.fnOf "_law_comes" "_law_comes" (defArgs s__law_comes) (defBody s__law_comes) (defScope s__law_comes) .none kV21 dc21 pm21 an21 cd21 ct21), sl21⟩)
    (c21 : PySem.W.codeIn K cd21 "_law_comes" = true)
    (k21 : PySem.W.keepIn K (.ref f21) = true)
    (a22 : PySem.W.nsIn K mainGlobals "_law_late" = some (some (.ref f22)))
    (l22 : K.lookup f22 = some ⟨oc22, od22, .func (PySem.W.fnOf "_law_late" "_law_late" (defArgs s__law_late) (defBody s__law_late) (defScope s__law_late) .none kV22 dc22 pm22 an22 cd22 ct22), sl22⟩)
    (c22 : PySem.W.codeIn K cd22 "_law_late" = true)
    (k22 : PySem.W.keepIn K (.ref f22) = true)
    (a23 : PySem.W.nsIn K mainGlobals "_law_tied" = some (some (.ref f23)))
    (l23 : K.lookup f23 = some ⟨oc23, od23, .func (PySem.W.fnOf "_law_tied" "_law_tied" (defArgs s__law_tied) (defBody s__law_tied) (defScope s__law_tied) .none kV23 dc23 pm23 an23 cd23 ct23), sl23⟩)
    (c23 : PySem.W.codeIn K cd23 "_law_tied" = true)
    (k23 : PySem.W.keepIn K (.ref f23) = true)
    (a24 : PySem.W.nsIn K mainGlobals "_law_grown" = some (some (.ref f24)))
    (l24 : K.lookup f24 = some ⟨oc24, od24, .func (PySem.W.fnOf "_law_grown" "_law_grown" (defArgs s__law_grown) (defBody s__law_grown) (defScope s__law_grown) .none kV24 dc24 pm24 an24 cd24 ct24), sl24⟩)
    (c24 : PySem.W.codeIn K cd24 "_law_grown" = true)
    (k24 : PySem.W.keepIn K (.ref f24) = true)
    (a25 : PySem.W.nsIn K mainGlobals "_law_odd_ones" = some (some (.ref f25)))
    (l25 : K.lookup f25 = some ⟨oc25, od25, .func (PySem.W.fnOf "_law_odd_ones" "_law_odd_ones" (defArgs s__law_odd_ones) (defBody s__law_odd_ones) (defScope s__law_odd_ones) .none kV25 dc25 pm25 an25 cd25 ct25), sl25⟩)
    (c25 : PySem.W.codeIn K cd25 "_law_odd_ones" = true)
    (k25 : PySem.W.keepIn K (.ref f25) = true)
    (a26 : PySem.W.nsIn K mainGlobals "_law_odd" = some (some (.ref f26)))
    (l26 : K.lookup f26 = some ⟨oc26, od26, .func (PySem.W.fnOf "_law_odd" "_law_odd" (defArgs s__law_odd) (defBody s__law_odd) (defScope s__law_odd) .none kV26 dc26 pm26 an26 cd26 ct26), sl26⟩)
    (c26 : PySem.W.codeIn K cd26 "_law_odd" = true)
    (k26 : PySem.W.keepIn K (.ref f26) = true)
    (a27 : PySem.W.nsIn K mainGlobals "law" = some (some (.ref f27)))
    (l27 : K.lookup f27 = some ⟨oc27, od27, .func (PySem.W.fnOf "law" "law" (defArgs s_law) (defBody s_law) (defScope s_law) .none kV27 dc27 pm27 an27 cd27 ct27), sl27⟩)
    (c27 : PySem.W.codeIn K cd27 "law" = true)
    (k27 : PySem.W.keepIn K (.ref f27) = true)
    (z_all : PySem.W.nsIn K mainGlobals "all" = some none)
    (z_any : PySem.W.nsIn K mainGlobals "any" = some none)
    (z_dict : PySem.W.nsIn K mainGlobals "dict" = some none)
    (z_int : PySem.W.nsIn K mainGlobals "int" = some none)
    (z_isinstance : PySem.W.nsIn K mainGlobals "isinstance" = some none)
    (z_len : PySem.W.nsIn K mainGlobals "len" = some none)
    (z_list : PySem.W.nsIn K mainGlobals "list" = some none)
    (z_max : PySem.W.nsIn K mainGlobals "max" = some none)
    (z_min : PySem.W.nsIn K mainGlobals "min" = some none)
    (z_range : PySem.W.nsIn K mainGlobals "range" = some none)
    (z_set : PySem.W.nsIn K mainGlobals "set" = some none)
    (z_sorted : PySem.W.nsIn K mainGlobals "sorted" = some none)
    (z_str : PySem.W.nsIn K mainGlobals "str" = some none)
    (z_tuple : PySem.W.nsIn K mainGlobals "tuple" = some none)
    (z_zip : PySem.W.nsIn K mainGlobals "zip" = some none)
    {t1 : Tok}
    (g_OWNER : PySem.W.nsIn K mainGlobals "OWNER" = some (some (.int (0) t1)))
    {t2 : Tok}
    (g_TIES : PySem.W.nsIn K mainGlobals "TIES" = some (some (.int (1) t2)))
    {t3 : Tok}
    (g_WISHES : PySem.W.nsIn K mainGlobals "WISHES" = some (some (.int (2) t3)))
    : LawAt l w K 19 63 "script" mg h fa := by
  have T : Txt K mg := ⟨PySem.W.mg_none_of KX G z_all, PySem.W.mg_none_of KX G z_any, PySem.W.mg_none_of KX G z_dict, PySem.W.mg_none_of KX G z_int, PySem.W.mg_none_of KX G z_isinstance, PySem.W.mg_none_of KX G z_len, PySem.W.mg_none_of KX G z_list, PySem.W.mg_none_of KX G z_max, PySem.W.mg_none_of KX G z_min, PySem.W.mg_none_of KX G z_range, PySem.W.mg_none_of KX G z_set, PySem.W.mg_none_of KX G z_sorted, PySem.W.mg_none_of KX G z_str, PySem.W.mg_none_of KX G z_tuple, PySem.W.mg_none_of KX G z_zip, ⟨.int (0), _, PySem.W.mg_of KX G g_OWNER, ⟨_, rfl⟩, fun _ => (.int _)⟩, ⟨.int (1), _, PySem.W.mg_of KX G g_TIES, ⟨_, rfl⟩, fun _ => (.int _)⟩, ⟨.int (2), _, PySem.W.mg_of KX G g_WISHES, ⟨_, rfl⟩, fun _ => (.int _)⟩⟩
  have F1 := fun_mk (st := s_next_actor) l1 c1 k1
  have A_next_actor : At K mg "next_actor" s_next_actor ["trust", "settled"] := ⟨f1, _, F1, PySem.W.mg_of KX G a1, F1.binds (ps := ["trust", "settled"]) fun _ _ _ _ _ _ us hl => match us, hl with | [_, _], _ => rfl⟩
  have F2 := fun_mk (st := s_givers_to) l2 c2 k2
  have A_givers_to : At K mg "givers_to" s_givers_to ["trust", "actor"] := ⟨f2, _, F2, PySem.W.mg_of KX G a2, F2.binds (ps := ["trust", "actor"]) fun _ _ _ _ _ _ us hl => match us, hl with | [_, _], _ => rfl⟩
  have F3 := fun_mk (st := s_is_full) l3 c3 k3
  have A_is_full : At K mg "is_full" s_is_full ["trust", "most", "settled"] := ⟨f3, _, F3, PySem.W.mg_of KX G a3, F3.binds (ps := ["trust", "most", "settled"]) fun _ _ _ _ _ _ us hl => match us, hl with | [_, _, _], _ => rfl⟩
  have F4 := fun_mk (st := s_is_in_ring) l4 c4 k4
  have A_is_in_ring : At K mg "is_in_ring" s_is_in_ring ["settled", "actor"] := ⟨f4, _, F4, PySem.W.mg_of KX G a4, F4.binds (ps := ["settled", "actor"]) fun _ _ _ _ _ _ us hl => match us, hl with | [_, _], _ => rfl⟩
  have F5 := fun_mk (st := s_lacks_time) l5 c5 k5
  have A_lacks_time : At K mg "lacks_time" s_lacks_time ["trust", "settled", "actor"] := ⟨f5, _, F5, PySem.W.mg_of KX G a5, F5.binds (ps := ["trust", "settled", "actor"]) fun _ _ _ _ _ _ us hl => match us, hl with | [_, _, _], _ => rfl⟩
  have F6 := fun_mk (st := s__bears) l6 c6 k6
  have A__bears : At K mg "_bears" s__bears ["tie", "wishes"] := ⟨f6, _, F6, PySem.W.mg_of KX G a6, F6.binds (ps := ["tie", "wishes"]) fun _ _ _ _ _ _ us hl => match us, hl with | [_, _], _ => rfl⟩
  have F7 := fun_mk (st := s__above) l7 c7 k7
  have A__above : At K mg "_above" s__above ["settled", "actor"] := ⟨f7, _, F7, PySem.W.mg_of KX G a7, F7.binds (ps := ["settled", "actor"]) fun _ _ _ _ _ _ us hl => match us, hl with | [_, _], _ => rfl⟩
  have F8 := fun_mk (st := s_tree_holds) l8 c8 k8
  have A_tree_holds : At K mg "tree_holds" s_tree_holds ["trust", "most", "tree"] := ⟨f8, _, F8, PySem.W.mg_of KX G a8, F8.binds (ps := ["trust", "most", "tree"]) fun _ _ _ _ _ _ us hl => match us, hl with | [_, _, _], _ => rfl⟩
  have F9 := fun_mk (st := s__holds) l9 c9 k9
  have A__holds : At K mg "_holds" s__holds ["trust", "most", "settled", "tree"] := ⟨f9, _, F9, PySem.W.mg_of KX G a9, F9.binds (ps := ["trust", "most", "settled", "tree"]) fun _ _ _ _ _ _ us hl => match us, hl with | [_, _, _, _], _ => rfl⟩
  have F10 := fun_mk (st := s__bars) l10 c10 k10
  have A__bars : At K mg "_bars" s__bars ["trust", "most", "settled", "bar"] := ⟨f10, _, F10, PySem.W.mg_of KX G a10, F10.binds (ps := ["trust", "most", "settled", "bar"]) fun _ _ _ _ _ _ us hl => match us, hl with | [_, _, _, _], _ => rfl⟩
  have F11 := fun_mk (st := s__goes_on) l11 c11 k11
  have A__goes_on : At K mg "_goes_on" s__goes_on ["trust", "most", "settled", "tree"] := ⟨f11, _, F11, PySem.W.mg_of KX G a11, F11.binds (ps := ["trust", "most", "settled", "tree"]) fun _ _ _ _ _ _ us hl => match us, hl with | [_, _, _, _], _ => rfl⟩
  have F12 := fun_mk (st := s__law_cell_at) l12 c12 k12
  have A__law_cell_at : At K mg "_law_cell_at" s__law_cell_at ["script", "k"] := ⟨f12, _, F12, PySem.W.mg_of KX G a12, F12.binds (ps := ["script", "k"]) fun _ _ _ _ _ _ us hl => match us, hl with | [_, _], _ => rfl⟩
  have F13 := fun_mk (st := s__law_pool) l13 c13 k13
  have A__law_pool : At K mg "_law_pool" s__law_pool ["cell", "place"] := ⟨f13, _, F13, PySem.W.mg_of KX G a13, F13.binds (ps := ["cell", "place"]) fun _ _ _ _ _ _ us hl => match us, hl with | [_, _], _ => rfl⟩
  have F14 := fun_mk (st := s__law_draw) l14 c14 k14
  have A__law_draw : At K mg "_law_draw" s__law_draw ["pool", "many"] := ⟨f14, _, F14, PySem.W.mg_of KX G a14, F14.binds (ps := ["pool", "many"]) fun _ _ _ _ _ _ us hl => match us, hl with | [_, _], _ => rfl⟩
  have F15 := fun_mk (st := s__law_names) l15 c15 k15
  have A__law_names : At K mg "_law_names" s__law_names ["pool", "many"] := ⟨f15, _, F15, PySem.W.mg_of KX G a15, F15.binds (ps := ["pool", "many"]) fun _ _ _ _ _ _ us hl => match us, hl with | [_, _], _ => rfl⟩
  have F16 := fun_mk (st := s__law_span) l16 c16 k16
  have A__law_span : At K mg "_law_span" s__law_span ["pool", "way"] := ⟨f16, _, F16, PySem.W.mg_of KX G a16, F16.binds (ps := ["pool", "way"]) fun _ _ _ _ _ _ us hl => match us, hl with | [_, _], _ => rfl⟩
  have F17 := fun_mk (st := s__law_trust) l17 c17 k17
  have A__law_trust : At K mg "_law_trust" s__law_trust ["pool", "most"] := ⟨f17, _, F17, PySem.W.mg_of KX G a17, F17.binds (ps := ["pool", "most"]) fun _ _ _ _ _ _ us hl => match us, hl with | [_, _], _ => rfl⟩
  have F18 := fun_mk (st := s__law_others) l18 c18 k18
  have A__law_others : At K mg "_law_others" s__law_others ["trust"] := ⟨f18, _, F18, PySem.W.mg_of KX G a18, F18.binds (ps := ["trust"]) fun _ _ _ _ _ _ us hl => match us, hl with | [_], _ => rfl⟩
  have F19 := fun_mk (st := s__law_lies) l19 c19 k19
  have A__law_lies : At K mg "_law_lies" s__law_lies ["trust", "giver", "holder", "since", "until"] := ⟨f19, _, F19, PySem.W.mg_of KX G a19, F19.binds (ps := ["trust", "giver", "holder", "since", "until"]) fun _ _ _ _ _ _ us hl => match us, hl with | [_, _, _, _, _], _ => rfl⟩
  have F20 := fun_mk (st := s__law_next) l20 c20 k20
  have A__law_next : At K mg "_law_next" s__law_next ["trust", "case"] := ⟨f20, _, F20, PySem.W.mg_of KX G a20, F20.binds (ps := ["trust", "case"]) fun _ _ _ _ _ _ us hl => match us, hl with | [_, _], _ => rfl⟩
  have F21 := fun_mk (st := s__law_comes) l21 c21 k21
  have A__law_comes : At K mg "_law_comes" s__law_comes ["case", "first", "goal"] := ⟨f21, _, F21, PySem.W.mg_of KX G a21, F21.binds (ps := ["case", "first", "goal"]) fun _ _ _ _ _ _ us hl => match us, hl with | [_, _, _], _ => rfl⟩
  have F22 := fun_mk (st := s__law_late) l22 c22 k22
  have A__law_late : At K mg "_law_late" s__law_late ["trust", "case", "actor"] := ⟨f22, _, F22, PySem.W.mg_of KX G a22, F22.binds (ps := ["trust", "case", "actor"]) fun _ _ _ _ _ _ us hl => match us, hl with | [_, _, _], _ => rfl⟩
  have F23 := fun_mk (st := s__law_tied) l23 c23 k23
  have A__law_tied : At K mg "_law_tied" s__law_tied ["trust", "actor"] := ⟨f23, _, F23, PySem.W.mg_of KX G a23, F23.binds (ps := ["trust", "actor"]) fun _ _ _ _ _ _ us hl => match us, hl with | [_, _], _ => rfl⟩
  have F24 := fun_mk (st := s__law_grown) l24 c24 k24
  have A__law_grown : At K mg "_law_grown" s__law_grown ["pool", "trust", "most", "case"] := ⟨f24, _, F24, PySem.W.mg_of KX G a24, F24.binds (ps := ["pool", "trust", "most", "case"]) fun _ _ _ _ _ _ us hl => match us, hl with | [_, _, _, _], _ => rfl⟩
  have F25 := fun_mk (st := s__law_odd_ones) l25 c25 k25
  have A__law_odd_ones : At K mg "_law_odd_ones" s__law_odd_ones ["tree"] := ⟨f25, _, F25, PySem.W.mg_of KX G a25, F25.binds (ps := ["tree"]) fun _ _ _ _ _ _ us hl => match us, hl with | [_], _ => rfl⟩
  have F26 := fun_mk (st := s__law_odd) l26 c26 k26
  have A__law_odd : At K mg "_law_odd" s__law_odd ["pool", "tree"] := ⟨f26, _, F26, PySem.W.mg_of KX G a26, F26.binds (ps := ["pool", "tree"]) fun _ _ _ _ _ _ us hl => match us, hl with | [_, _], _ => rfl⟩
  have F27 := fun_mk (st := s_law) l27 c27 k27
  have A_law : At K mg "law" s_law ["script"] := ⟨f27, _, F27, PySem.W.mg_of KX G a27, F27.binds (ps := ["script"]) fun _ _ _ _ _ _ us hl => match us, hl with | [_], _ => rfl⟩
  have e := hfa.symm.trans (PySem.W.mg_of KX G a27)
  cases e
  exact glue T A_next_actor A_givers_to A_is_full A_is_in_ring A_lacks_time A__bears A__above A_tree_holds A__holds A__bars A__goes_on A__law_cell_at A__law_pool A__law_draw A__law_names A__law_span A__law_trust A__law_others A__law_lies A__law_next A__law_comes A__law_late A__law_tied A__law_grown A__law_odd_ones A__law_odd F27 (fun s v => .of_eq rfl)
--@ARGS a1 l1 c1 k1 a2 l2 c2 k2 a3 l3 c3 k3 a4 l4 c4 k4 a5 l5 c5 k5 a6 l6 c6 k6 a7 l7 c7 k7 a8 l8 c8 k8 a9 l9 c9 k9 a10 l10 c10 k10 a11 l11 c11 k11 a12 l12 c12 k12 a13 l13 c13 k13 a14 l14 c14 k14 a15 l15 c15 k15 a16 l16 c16 k16 a17 l17 c17 k17 a18 l18 c18 k18 a19 l19 c19 k19 a20 l20 c20 k20 a21 l21 c21 k21 a22 l22 c22 k22 a23 l23 c23 k23 a24 l24 c24 k24 a25 l25 c25 k25 a26 l26 c26 k26 a27 l27 c27 k27 z_all z_any z_dict z_int z_isinstance z_len z_list z_max z_min z_range z_set z_sorted z_str z_tuple z_zip g_OWNER g_TIES g_WISHES
end K80
open PySem PySem.W PyProof.Rows
set_option maxRecDepth 100000 in
set_option maxHeartbeats 0 in
theorem PySem.Challenge.cw_leavechain_k80_trees_of_anything_holds : PySem.Challenge.rw_leavechain_k80_trees_of_anything.Holds := by
  w_on; o_law; k_head; (case hw => w_witness2)
  k_fill
  refine Lk.walkX (l := PySem.Challenge.rw_leavechain_k80_trees_of_anything) (n := 63) (k := 19) (x := "script") rfl (by decide) rfl ⟨rfl, by decide, by decide⟩ (fun w h Y => PySem.W.kIn_of Y) ?F
  case F =>
    intro w mg mb fa s0 h Gr Y KX G hmg
    refine' K80.all_mk KX G hmg ?a1 ?l1 ?c1 ?k1 ?a2 ?l2 ?c2 ?k2 ?a3 ?l3 ?c3 ?k3 ?a4 ?l4 ?c4 ?k4 ?a5 ?l5 ?c5 ?k5 ?a6 ?l6 ?c6 ?k6 ?a7 ?l7 ?c7 ?k7 ?a8 ?l8 ?c8 ?k8 ?a9 ?l9 ?c9 ?k9 ?a10 ?l10 ?c10 ?k10 ?a11 ?l11 ?c11 ?k11 ?a12 ?l12 ?c12 ?k12 ?a13 ?l13 ?c13 ?k13 ?a14 ?l14 ?c14 ?k14 ?a15 ?l15 ?c15 ?k15 ?a16 ?l16 ?c16 ?k16 ?a17 ?l17 ?c17 ?k17 ?a18 ?l18 ?c18 ?k18 ?a19 ?l19 ?c19 ?k19 ?a20 ?l20 ?c20 ?k20 ?a21 ?l21 ?c21 ?k21 ?a22 ?l22 ?c22 ?k22 ?a23 ?l23 ?c23 ?k23 ?a24 ?l24 ?c24 ?k24 ?a25 ?l25 ?c25 ?k25 ?a26 ?l26 ?c26 ?k26 ?a27 ?l27 ?c27 ?k27 ?z_all ?z_any ?z_dict ?z_int ?z_isinstance ?z_len ?z_list ?z_max ?z_min ?z_range ?z_set ?z_sorted ?z_str ?z_tuple ?z_zip ?g_OWNER ?g_TIES ?g_WISHES
    (case a1 => k_is); (case l1 => k_is); (case c1 => k_is); (case k1 => k_is); (case a2 => k_is); (case l2 => k_is)
    (case c2 => k_is); (case k2 => k_is); (case a3 => k_is); (case l3 => k_is); (case c3 => k_is); (case k3 => k_is)
    (case a4 => k_is); (case l4 => k_is); (case c4 => k_is); (case k4 => k_is); (case a5 => k_is); (case l5 => k_is)
    (case c5 => k_is); (case k5 => k_is); (case a6 => k_is); (case l6 => k_is); (case c6 => k_is); (case k6 => k_is)
    (case a7 => k_is); (case l7 => k_is); (case c7 => k_is); (case k7 => k_is); (case a8 => k_is); (case l8 => k_is)
    (case c8 => k_is); (case k8 => k_is); (case a9 => k_is); (case l9 => k_is); (case c9 => k_is); (case k9 => k_is)
    (case a10 => k_is); (case l10 => k_is); (case c10 => k_is); (case k10 => k_is); (case a11 => k_is); (case l11 => k_is)
    (case c11 => k_is); (case k11 => k_is); (case a12 => k_is); (case l12 => k_is); (case c12 => k_is); (case k12 => k_is)
    (case a13 => k_is); (case l13 => k_is); (case c13 => k_is); (case k13 => k_is); (case a14 => k_is); (case l14 => k_is)
    (case c14 => k_is); (case k14 => k_is); (case a15 => k_is); (case l15 => k_is); (case c15 => k_is); (case k15 => k_is)
    (case a16 => k_is); (case l16 => k_is); (case c16 => k_is); (case k16 => k_is); (case a17 => k_is); (case l17 => k_is)
    (case c17 => k_is); (case k17 => k_is); (case a18 => k_is); (case l18 => k_is); (case c18 => k_is); (case k18 => k_is)
    (case a19 => k_is); (case l19 => k_is); (case c19 => k_is); (case k19 => k_is); (case a20 => k_is); (case l20 => k_is)
    (case c20 => k_is); (case k20 => k_is); (case a21 => k_is); (case l21 => k_is); (case c21 => k_is); (case k21 => k_is)
    (case a22 => k_is); (case l22 => k_is); (case c22 => k_is); (case k22 => k_is); (case a23 => k_is); (case l23 => k_is)
    (case c23 => k_is); (case k23 => k_is); (case a24 => k_is); (case l24 => k_is); (case c24 => k_is); (case k24 => k_is)
    (case a25 => k_is); (case l25 => k_is); (case c25 => k_is); (case k25 => k_is); (case a26 => k_is); (case l26 => k_is)
    (case c26 => k_is); (case k26 => k_is); (case a27 => k_is); (case l27 => k_is); (case c27 => k_is); (case k27 => k_is)
    (case z_all => k_is); (case z_any => k_is); (case z_dict => k_is); (case z_int => k_is); (case z_isinstance => k_is); (case z_len => k_is)
    (case z_list => k_is); (case z_max => k_is); (case z_min => k_is); (case z_range => k_is); (case z_set => k_is); (case z_sorted => k_is)
    (case z_str => k_is); (case z_tuple => k_is); (case z_zip => k_is); (case g_OWNER => k_is); (case g_TIES => k_is); (case g_WISHES => k_is)

