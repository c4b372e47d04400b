import PyProof.Rows.All
import Wide.All
import OpenK.AllK
import Wide.FinOn
import HandS.ForMost
import HandS.Codes
import HandS.Evl
import HandS.FStr
import HandS.Wide
import HandS.Zip
import HandS.RaiseMore
import HandS.IsInst
import HandS.EndOwn
import HandS.AnyAll
import HandS.GenOver
import HandS.Nested
import HandS.TupAny
import HandS.Deep
import HandS.Style
import HandS.Exc
import HandS.ExcOwn
import HandS.TryOnly
import HandS.WordsExc
import HandS.ExcIs
import HandS.ExcField
import HandS.ExcSuper
import HandS.ExcInit
import KE.KExcSuper
import HandS.HeadWalk
import HandS.StrMore
import HandS.Strs
import HandS.Dict
import HandS.HotCalls
import HandS.More
import HandS.ExcValue
import HandS.Star
import PyProof.ReprRoads
import KE.KEqDict
import KE.GoesEnumKw
import HandS.Replace
import KE.SortData
import KE.KDictZip
import PyProof.Rows.StrRev
import PyProof.SliceStr2
import KE.KDictCopyH
import HandS.SetBool
import HandS.SortKw
import PySem.Challenge.RW_leavechain_k85_whole_more_and_less_trust
set_option Elab.async false
set_option linter.all false
set_option maxRecDepth 100000
set_option maxHeartbeats 4000000
namespace Lk
open PySem PySem.Spec PyProof.Rows L2 Evl

/-! ### defs as they stand behind the top -/
/-- a def that may be called by its name, with its promise -/
structure Cal (P : Program) (w : World) (K : PySem.W.Frag) (mg : Str → Option Value) (base : Heap) (k : Nat) (x : Str) (sp : Sp) : Prop where
  ex : ∃ (f : Addr) (fd : FuncData) (ps : List Str), FnOk P w K mg base CX0 k f fd ps sp ∧ mg x = some (.ref f) ∧ PySem.W.keepIn K (.ref f) = true ∧ Binds K fd ps []
/-- the def x of the text: it stands at a known place, binds its parameters by place and by all their names -/
structure At (K : PySem.W.Frag) (mg : Str → Option Value) (x : Str) (st : Stmt) (ps : List Str) : Prop where
  ex : ∃ f fd, Fun K x x st f fd ∧ mg x = some (.ref f) ∧ Binds K fd ps []
section
variable {P : Program} {w : World} {K : PySem.W.Frag} {mg : Str → Option Value} {base : Heap}
end
section
variable {P : Program} {w : World} {K : PySem.W.Frag} {mg : Str → Option Value} {base : Heap} {x : Str} {st : Stmt} {ps : List Str} {k : Nat} {sp : Sp}
theorem At.of (A : At K mg x st ps) (h : ∀ f fd, Fun K x x st f fd → FnOk P w K mg base CX0 k f fd ps sp) : Cal P w K mg base k x sp := by
  obtain ⟨f, fd, F1, g, b⟩ := A.ex
  exact ⟨⟨f, fd, ps, h f fd F1, g, F1.kp, b⟩⟩
end
section
variable {X : Cx} {k j : Nat} {x : Str} {sp : Sp} {p pos : Pos} {kws : List Keyword} {ks : List Str} {tk : TA}
theorem pe_c {e : Expr} {es : List Expr} {t : TA} (c : Cal X.prog X.w X.K X.mg X.base k x sp) (hr : Room j X.A) (hk : k ≤ j) (hg : Gl X x) (ha : PA X (e :: es) t)
    (hdb : (x == ("__debug__" : Str)) = false := by decide) (he : starEach (e :: es) X.env = (false, eval e X.env) :: starEach es X.env := by rfl) (hpl : (backTo pos (starEach es X.env)).any (·.1) = false := by rfl) :
    PE X (.Call (.Name x p) (e :: es) [] pos) (tCall sp [] E0 t) := by
  obtain ⟨f, fd, ps, F, hm, kp, b⟩ := c.ex
  exact pe_call F (hr.mono hk) hg hm kp b .nil pass0 ha hdb he hpl
end

/-! ### operators that the layer lacks -/
def CPowW (i j : Int) : Prop := 0 ≤ j ∧ (Builtin.Int.intBits i : Int) * j ≤ 2 ^ 27
section
variable {X : Cx}
theorem op_powW : OpR X (binaryOp .Pow) (rI CPowW fun i j => .int (i ^ j.toNat)) := opI fun _ _ _ _ _ _ _ hc q => pow_int hc.1 hc.2 q
theorem pow_ok {i j : Int} {a : Nat} (ha : i.natAbs < 2 ^ a) (h0 : 0 < a) (hj : 0 ≤ j) (h : (a : Int) * j ≤ 2 ^ 27) : CPowW i j := by
  refine ⟨hj, ?_⟩
  have b : Builtin.Int.intBits i ≤ i.natAbs.log2 + 1 := by
    unfold Builtin.Int.intBits
    split <;> omega
  have l := PySem.Flt.log2_lt_of h0 ha
  have e : Builtin.Int.intBits i ≤ a := by omega
  exact Int.le_trans (Int.mul_le_mul_of_nonneg_right (by omega) hj) h

end

/-! ### readings step by step: what is wanted stays folded -/
section
variable {K : PySem.W.Frag} {σ : L2.St} {H : Hp} {Q : VK} {x y v : V} {ta tb te : TE} {tt tu : TT} {QB : Bool → Hp → Prop} {QA : List V → Hp → Prop} {D : Ends} {t1 t2 : TS} {tr : TA}
end

/-! ### heaps: all is kept, or all but what stands at u -/
section
variable {K : PySem.W.Frag} {u a : Addr} {H H' : Hp} {xs : List V}
end

/-! ### the urn: three ints of which only bounds are known -/
section
variable {X : Cx} {pins : List (Addr × Obj)} {σ : L2.St} {H : Hp} {s : Shared} {u : Addr} {o : HO} {p : Int → Int → Int → Prop}
end
section
variable {K : PySem.W.Frag} {σ : L2.St} {H : Hp} {Q : VK} {x y v : V} {ta tb te : TE} {D : Ends} {tr : TA} {p : Addr} {xs : List V}
theorem small_sz {n : Nat} (h : n ≤ 1000 := by decide) : n ≤ sizeLine := Nat.le_trans h (by decide)
end
/-! ### the draws of the first laws -/
/-! ### the urn behind n draws at most -/
section
variable {p : UP} {u : Addr} {n m : Nat} {H H' : Hp}
end
/-! ### loops and comprehensions, step by step -/
section
variable {K : PySem.W.Frag} {σ : L2.St} {H : Hp} {Q : VK} {x y v : V} {ta tb te : TE} {tt : TT} {D : Ends} {tr : TA} {p : Addr} {xs : List V} {g : TG} {tb' : TS}
end

/-! ### items at a drawn place -/
section
variable {K : PySem.W.Frag} {H : Hp} {Q : VK} {p : Addr} {xs : List V} {i : Int}
end
/-! ### names -/
/-! ### zip -/
/-! ### texts of numbers and of texts -/
section
variable {X : Cx}
end
section
variable {K : PySem.W.Frag} {σ : L2.St} {H : Hp} {Q : VK} {QS : Str → Hp → Prop} {te : TE} {t : TE} {ts : List TE} {acc : Str}
end
section
variable {K : PySem.W.Frag} {σ : L2.St} {H : Hp} {Q : VK} {x : V} {p : Addr} {xs ys : List V} {R : L2.St → Hp → Prop}
end
end Lk

namespace Lk
open PySem PySem.Spec PyProof.Rows L2 Evl

/-! ### tables of code objects: they may grow, what is known of them stays -/
def TabPhi (P : Addr) (h : Heap) : Prop := ∃ ps : Array Value, h.get? P = some { cls := .none, data := .fields ps } ∧ TriplesOk ps.toList
def TabO (P : Addr) : HO := .ext (TabPhi P)
/-- the script: a list whose object is known to the sign -/
def SqX (K : PySem.W.Frag) (H : Hp) (a : Addr) (xs : List V) : Prop := Rd H a (.lst xs) ∨ ∃ its : List Value, K.lookup a = some { cls := .type "list", data := .seq its.toArray } ∧ xs.length ≤ sizeLine ∧ Vals xs its
theorem SqX.l {K : PySem.W.Frag} {H : Hp} {a : Addr} {xs : List V} (h : SqX K H a xs) : SqL K H a xs := by
  rcases h with h | ⟨its, e, z, r⟩
  · exact .inl h
  · exact .inr ⟨_, its.toArray, _, e, rfl, rfl, rfl, by rw [List.size_toArray, ← r.length]; exact z, by simpa using r⟩
section
variable {X : Cx} {pins : List (Addr × Obj)} {σ : L2.St} {H : Hp} {s : Shared} {a : Addr} {xs : List V}
end

/-! ### the law's call, from its promise -/
section
variable {P : Program} {w : World} {K : PySem.W.Frag} {mg mb : Str → Option Value}
/-- what is tracked as the law is entered: the tables, and the script where the top has not written it -/
def entryH (K : PySem.W.Frag) (ts : List Addr) (a : Addr) (o : Obj) (xs : List V) : Hp := fun b => if b ∈ ts then some (TabO b) else if b = a ∧ K.lookup a = none then some (.frz o (.lst xs)) else none
theorem entry_tab {ts : List Addr} {a : Addr} {o : Obj} {xs : List V} {b : Addr} (h : b ∈ ts) : entryH K ts a o xs b = some (TabO b) := if_pos h
theorem entry_some {ts : List Addr} {a : Addr} {o : Obj} {xs : List V} {b : Addr} {u : HO} (h : entryH K ts a o xs b = some u) : (b ∈ ts ∧ u = TabO b) ∨ (b ∉ ts ∧ b = a ∧ K.lookup a = none ∧ u = .frz o (.lst xs)) := by
  unfold entryH at h
  by_cases hb : b ∈ ts
  · rw [if_pos hb] at h
    exact .inl ⟨hb, (Option.some.inj h).symm⟩
  · rw [if_neg hb] at h
    by_cases hc : b = a ∧ K.lookup a = none
    · rw [if_pos hc] at h
      exact .inr ⟨hb, hc.1, hc.2, (Option.some.inj h).symm⟩
    · rw [if_neg hc] at h
      cases h
theorem lawX {k : Nat} {fa a : Addr} {cs : List (Addr × Addr)} {fd : FuncData} {x : Str} {sp : Sp} {s1 : Shared} {vs : List Value} {ns : List Int}
    (KX : K.In s1.heap) (hns : s1.heap.Ns mainGlobals mg) (hb : s1.heap.Ns builtinsNs mb) (hbb : ∀ x : Str, x ≠ "__name__" → mb x = bootBuiltins x) (hlim : s1.heap.NoLimit) (hg : s1.gens = #[])
    (hT : ∀ p ∈ cs, s1.heap.get? p.2 = some { cls := .none, data := .fields #[] }) (nT : ∀ p ∈ cs, K.lookup p.2 = none) (C : ∀ p ∈ cs, PySem.W.CodeHd s1.heap p.1 p.2)
    (hbm : ∃ (bm : Addr) (ob : Obj), mg "__builtins__" = some (.ref bm) ∧ bm ≠ builtinsNs ∧ s1.heap.get? bm = some ob ∧ ob.cls = .type "module" ∧ ob.dict = some builtinsNs ∧ ob.data = .plain)
    (ha : s1.heap.get? a = some { cls := .type "list", data := .seq vs.toArray }) (hi : IntsAre vs ns) (hl : ns.length ≤ sizeLine) (hr : Room k callerA)
    (F : ∀ base : Heap, K.In base → base.Ns mainGlobals mg → (∀ p ∈ cs, GxR.TabB base mg p.1 p.2) → FnOk P w K mg base CX0 k fa fd [x] sp) (hbind : ∀ (s : Shared) (u : Value), BindsTo s fd ⟨[u], []⟩ [(x, u)])
    (hsp : ∀ H : Hp, (∀ p ∈ cs, H p.2 = some (TabO p.2)) → SqX K H a (ns.map V.int) → sp [.ref a] H (fun v H' => v = .bl true ∧ ∀ p ∈ cs, H' p.2 = some (TabO p.2)) fun _ _ _ => False) :
    codeAny (model P w) callerA (.call (.ref fa) ⟨[.ref a], []⟩) (fun r s' => r = .ok (.ret (.bool true)) ∧ OldK s1.heap s'.heap ∧ s'.os = s1.os ∧ AllBare s'.gens) s1 := by
  have rv := vals_ints hi
  have lenV := hi.length
  let ts := cs.map (·.2)
  let H : Hp := entryH K ts a { cls := .type "list", data := .seq vs.toArray } (ns.map V.int)
  have inT : ∀ p ∈ cs, p.2 ∈ ts := fun p hp => List.mem_map.mpr ⟨p, hp, rfl⟩
  have isT : ∀ b : Addr, b ∈ ts → s1.heap.get? b = some { cls := .none, data := .fields #[] } ∧ K.lookup b = none := fun b hb => by
    obtain ⟨p, hp, e⟩ := List.mem_map.mp hb
    rw [← e]
    exact ⟨hT p hp, nT p hp⟩
  have aT : a ∉ ts := fun z => by
    have q := (isT a z).1
    rw [ha] at q
    have z' : Data.seq vs.toArray _ = Data.fields #[] := congrArg Obj.data (Option.some.inj q)
    cases z'
  -- what is neither a list nor an empty table is not tracked
  have free : ∀ {b : Addr} {o : Obj}, s1.heap.get? b = some o → (∀ zs n, o.data ≠ .seq zs n) → o.data ≠ .fields #[] → H b = none := fun {b o} e h1 h2 => by
    cases q : H b with
    | none => rfl
    | some u =>
      rcases entry_some q with ⟨hb, _⟩ | ⟨_, hb, _⟩
      · rw [(isT b hb).1] at e
        cases e
        exact (h2 rfl).elim
      · rw [hb, ha] at e
        cases e
        exact (h1 _ _ rfl).elim
  have freeD : ∀ {b : Addr} {o : Obj} {es : Array DictEntry} {ep : Nat}, s1.heap.get? b = some o → o.data = .dict es ep → H b = none := fun {b o es ep} e d => by
    refine free e (fun zs n z => ?_) fun z => ?_
    · rw [d] at z
      cases z
    · rw [d] at z
      cases z
  have nsK : ∀ {b : Addr} {m : Str → Option Value}, s1.heap.Ns b m → (hidT s1.heap H).Ns b m := fun {b m} ⟨o, es, ep, e, d, r⟩ => ⟨o, es, ep, hidT_get e (freeD e d), d, r⟩
  have hKb : K.In (hidT s1.heap H) := fun b o e => hidT_get (KX b o e) (by
    cases q : H b with
    | none => rfl
    | some u =>
      rcases entry_some q with ⟨hb, _⟩ | ⟨_, hb, hk, _⟩
      · rw [(isT b hb).2] at e
        cases e
      · rw [hb, hk] at e
        cases e)
  have hM : L2.Mod K mg (hidT s1.heap H) := ⟨hKb, nsK hns, ⟨mb, nsK hb, hbb⟩, let ⟨mc, h1, h2⟩ := hlim; ⟨mc, nsK h1, h2⟩⟩
  have TB : ∀ p ∈ cs, GxR.TabB (hidT s1.heap H) mg p.1 p.2 := fun p hp => by
    have hTp := hT p hp
    refine ⟨?_, ?_, fun z => ?_⟩
    · obtain ⟨o, us, file, tf, flags, tg, inF, text, tt, e1, r1, r2, r3, r⟩ := C p hp
      refine ⟨o, us, file, tf, flags, tg, inF, text, tt, hidT_get e1 (free e1 (fun zs n z => ?_) fun z => ?_), r1, r2, r3, r⟩
      · rw [r2] at z
        cases z
      · rw [r2] at z
        cases z
        simp at r3
    · obtain ⟨bm, ob, b1, b2, b3, b4, b5, b6⟩ := hbm
      refine ⟨bm, ob, b1, b2, fun q => ?_, fun q => ?_, hidT_get b3 (free b3 (fun zs n z => ?_) fun z => ?_), b4, b5, b6⟩
      · obtain ⟨o, es, ep, e, hd, _⟩ := hns
        rw [q, e] at b3
        cases b3
        rw [hd] at b6
        cases b6
      · rw [q, hTp] at b3
        cases b3
        cases b6
      · rw [b6] at z
        cases z
      · rw [b6] at z
        cases z
    · obtain ⟨o, es, ep, e, hd, _⟩ := hns
      rw [z, hTp] at e
      cases e
      cases hd
  have hok : HOk P w H s1.heap := fun b u z => by
    rcases entry_some z with ⟨hb, rfl⟩ | ⟨_, rfl, _, rfl⟩
    · have e := (isT b hb).1
      refine ⟨⟨#[], e, True.intro⟩, ⟨_, e⟩, ?_⟩
      rintro h1 h2 ⟨ps, e1, e2⟩ kp
      exact ⟨ps, kp _ e1, e2⟩
    · exact ⟨ha, by rw [List.length_map]; exact hl, vs, _, rv, ha⟩
  have hS : SqX K H a (ns.map V.int) := by
    cases hk : K.lookup a with
    | some o =>
      have e := KX a o hk
      rw [ha] at e
      cases e
      exact .inr ⟨vs, hk, by rw [List.length_map]; exact hl, rv⟩
    | none => exact .inl (.inr ⟨_, show entryH K ts a _ _ a = _ by unfold entryH; rw [if_neg aT, if_pos ⟨rfl, hk⟩]⟩)
  have e0 : Env0 P w K mg (hidT s1.heap H) callerA [] s1 H := ⟨rfl, hM, fun b o e => of_hidT e, Nat.le_of_eq (hidT_size _ _), trivial, fun b hb => absurd (show b ∈ ([] : List Addr) from hb) (by simp), hok, .of_eq hg⟩
  refine codeAny_mono ((F _ hKb (nsK hns) TB).run callerA [] s1 H ⟨[.ref a], []⟩ [.ref a] [.ref a] _ _ hr e0 (hbind s1 (.ref a)) (.cons rfl .nil) (hsp H (fun p hp => entry_tab (inT p hp)) hS)) fun r s' h => ?_
  cases r with
  | error e => exact False.elim h
  | ok fl =>
    cases fl with
    | next => exact False.elim h
    | brk => exact False.elim h
    | cont => exact False.elim h
    | ret u =>
      obtain ⟨v, H', os, bare, un, hok', r', q⟩ := h
      obtain ⟨qv, qT⟩ : v = .bl true ∧ ∀ p ∈ cs, H' p.2 = some (TabO p.2) := q
      subst qv
      obtain rfl : u = Value.bool true := r'
      have key : ∀ b o, b ∉ ts → s1.heap.get? b = some o → s'.heap.get? b = some o := fun b o nb e => by
        cases q : H b with
        | none => exact un.keep b o e q (by intro z; exact absurd (show b ∈ ([] : List Addr) from z) (by simp)) (by simp)
        | some u =>
          rcases entry_some q with ⟨z, _⟩ | ⟨_, rfl, _, rfl⟩
          · exact absurd z nb
          · obtain ⟨e1, _⟩ := hok b _ q
            obtain ⟨e2, _⟩ := hok' b _ (un.frzs b _ _ q)
            rw [e] at e1
            cases e1
            exact e2
      have grown : ∀ p ∈ cs, ∃ more : Array Value, s'.heap.get? p.2 = some { cls := .none, data := .fields more } := fun p hp => by
        obtain ⟨⟨ps, e, _⟩, _, _⟩ := hok' p.2 _ (qT p hp)
        exact ⟨ps, e⟩
      refine ⟨rfl, ⟨fun b o e => ?_, fun b o e => ?_⟩, os, bare⟩
      · by_cases hb : b ∈ ts
        · obtain ⟨p, hp, ep⟩ := List.mem_map.mp hb
          obtain ⟨more, hm⟩ := grown p hp
          have ep' : p.2 = b := ep
          rw [← ep'] at e ⊢
          rw [hT p hp] at e
          cases e
          exact .inr (.inl ⟨((C p hp).tab (hT p hp)).isCodeTable, rfl, #[], more, rfl, by rw [Array.empty_append]; exact hm⟩)
        · exact .inl (key b o hb e)
      · by_cases hb : b ∈ ts
        · obtain ⟨p, hp, ep⟩ := List.mem_map.mp hb
          obtain ⟨more, hm⟩ := grown p hp
          have ep' : p.2 = b := ep
          rw [← ep']
          exact ⟨_, hm⟩
        · exact ⟨o, key b o hb e⟩
end
/-- what is to be shown of a law's def, behind the top -/
def LawAt (l : PySem.W.OpenLaw) (w : World) (K : PySem.W.Frag) (k n : Nat) (x : Str) (mg : Str → Option Value) (h : Heap) (fa : Addr) : Prop :=
  ∃ (fd : FuncData) (cs : List (Addr × Addr)) (sp : Sp), (∀ p ∈ cs, h.get? p.2 = some { cls := .none, data := .fields #[] }) ∧ (∀ p ∈ cs, K.lookup p.2 = none) ∧ (∀ p ∈ cs, PySem.W.CodeHd h p.1 p.2) ∧ (∀ (s : Shared) (u : Value), BindsTo s fd ⟨[u], []⟩ [(x, u)]) ∧
    (∀ (H : Hp) (a : Addr) (ns : List Int), ns.length ≤ n → (∀ z ∈ ns, Builtin.Int.intBits z ≤ 1048576) → (∀ p ∈ cs, H p.2 = some (TabO p.2)) → SqX K H a (ns.map V.int) → sp [.ref a] H (fun v H' => v = .bl true ∧ ∀ p ∈ cs, H' p.2 = some (TabO p.2)) fun _ _ _ => False) ∧
    ∀ base : Heap, K.In base → base.Ns mainGlobals mg → (∀ p ∈ cs, GxR.TabB base mg p.1 p.2) → FnOk l.prog w K mg base CX0 k fa fd [x] sp
theorem walkX {l : PySem.W.OpenLaw} {n k : Nat} {q : Program} {loose : List Str} {XP : (Str → Option Value) → Heap → Prop} {YP : World → Heap → Prop} {d : DefRec} {K : Params → PySem.W.Frag} {x : Str}
    (hn : l.most = some n) (hn2 : n ≤ sizeLine) (hdf : d.params.defaults = []) (hr : Room k callerA) (hY : ∀ (w : World) (h : Heap), YP w h → (K w.params).In h)
    (F : ∀ (w : World) (mg mb : Str → Option Value) (fa : Addr) (s0 : Shared) (h : Heap), PySem.W.Ground q loose [] XP w s0 mg mb h → YP w h → (K w.params).In h → h.Ns mainGlobals mg → mg d.name = some (.ref fa) → LawAt l w (K w.params) k n x mg h fa) :
    PySem.W.WalkO q loose XP YP l.row.toRowW d [] (fun f vs => PySem.call f vs) := by
  refine Att.attach_callB hn hdf fun w s0 s1 mg mb fa o pm cd doc a vs ns G Y ho hd hcd hmg hobj hints hlen hbits hg => ?_
  have KX := hY w _ Y
  obtain ⟨fd, cs, sp, hT, nT, C, hb, hsp, hF⟩ := F w mg mb fa s0 _ G Y KX G.T.g hmg
  exact lawX KX G.T.g G.T.b G.T.builtins G.T.nolimit hg hT nT C G.T.bmain hobj hints (Nat.le_trans hlen hn2) hr hF hb (fun H hH hS => hsp H a ns hlen hbits hH hS)
section
variable {K : PySem.W.Frag} {σ : L2.St} {H : Hp} {Q : VK} {a b : Addr} {xs zs : List V} {ns : List Int}
end
end Lk

namespace Lk
open PySem PySem.Spec PyProof.Rows L2 Evl

/-! ### all, any of a generator expression over a text, a tuple, a list; the tables as TabO -/
section
variable {X : Cx} {pins : List (Addr × Obj)} {σ : L2.St} {H : Hp} {s : Shared}
theorem ext_eq {φ : Heap → Prop} {o : HO} (h : some (HO.ext φ) = some o) : o = .ext φ := (Option.some.inj h).symm
/-- the table at P has grown, all else stands -/
theorem inv_tabO {P : Addr} {ps' : Array Value} {h' : Heap} {g' : Array GenState} {d' : Drawn} {t' : Nat} (I : Inv X pins σ H s) (hP : H P = some (TabO P)) (k : ∀ b o, b ≠ P → s.heap.get? b = some o → h'.get? b = some o)
    (hm : h'.get? P = some { cls := .none, data := .fields ps' }) (ht : TriplesOk ps'.toList) (hg : AllBare g') : Inv X pins σ H { s with heap := h', gens := g', drawn := d', toks := t' } := by
  have off : ∀ b, H b ≠ some (TabO P) → b ≠ P := fun b h z => h (by rw [z]; exact hP)
  have nN : ∀ b, H b = none → b ≠ P := fun b e => off b (by rw [e]; exact nofun)
  refine I.step (ch := []) (fun b hb => absurd hb (by simp)) (fun b o _ _ _ e n => k b o (nN b n) e) (fun b o _ _ _ e n => ⟨o.slots, k b o (nN b n) e⟩) (fun b o _ _ n => n) (fun b o _ e => ?_) (fun b xs e => e) (fun b o u e => e)
    (fun b qs e => ⟨#[], by simpa using e⟩) (fun m hn => ?_) (fun b u e => ?_) hg
  · by_cases hb : b = P
    · rw [hb]
      exact ⟨_, hm⟩
    · exact ⟨o, k b o hb e⟩
  · obtain ⟨ob, es, ep, ho, r⟩ := hn
    exact ⟨ob, es, ep, k _ ob (nN _ I.free) ho, r⟩
  · by_cases hb : b = P
    · rw [hb] at e
      rw [hP] at e
      obtain rfl := ext_eq e
      rw [hb]
      refine ⟨⟨ps', hm, ht⟩, ⟨_, hm⟩, ?_⟩
      rintro h1 h2 ⟨qs, e1, e2⟩ kp
      exact ⟨qs, kp _ e1, e2⟩
    · refine (I.hok b u e).stay (fun d v hd q => k d v ?_ q) (fun d q => q) fun d xs q => q
      rcases hd with z | z
      · rw [z]
        exact hb
      · exact off d (by rw [z]; exact nofun)
/-- the iterator of a walked thing, its turns -/
def Iters (X : Cx) (P : Addr) (u : Value) (s1 : Shared) (n : Nat) (Pf : Nat → Value → Prop) : Prop :=
  ∀ Q : Value → Shared → Prop, (∀ (o : Obj) (fp : List Addr) (St : Nat → Heap → Prop), (∀ A' : Around, A'.handled = none → Walks X.prog X.w A' s1.heap.objs.size fp [s1.heap.objs.size] n Pf St) → St 0 (s1.heap.push o) →
    (∀ b ∈ fp, b ≤ s1.heap.objs.size ∧ b ≠ P) → Q (.ref s1.heap.objs.size) { s1 with heap := s1.heap.push o }) → wpAny (model X.prog X.w) X.A (pyIter u) Q X.xe s1
/-- the generator's own environment -/
structure GEnv (X : Cx) (scope : Scope) (cenv : Env) : Prop where
  sc : cenv.scope = scope
  gl : cenv.globals = X.env.globals
  bi : cenv.builtins = builtinsNs
  ce : cenv.cells = cloFrom X.env.cells scope.names []
/-- the element: a test of the walked items; s1: as the generator was made -/
def EltOk (X : Cx) (scope : Scope) (x : Str) (elt : Expr) (P : Addr) (s1 : Shared) (Pf : Nat → Value → Prop) (pb : Nat → Bool) : Prop :=
  ∀ (cenv : Env) (A' : Around) (E' : Value → Shared → Prop) (i : Nat) (v : Value) (s₂ : Shared) (m₂ : Str → Option Value), GEnv X scope cenv → A'.handled = none → A'.depth ≤ X.A.depth + 1 → A'.units ≤ X.A.units + 8 → Pf i v →
    s₂.heap.Ns cenv.locals m₂ → m₂ x = some v → (∀ b o, b ≠ P → s1.heap.get? b = some o → s₂.heap.get? b = some o) → wpAny (model X.prog X.w) A' (eval elt cenv) (fun y s₃ => y = .bool (pb i) ∧ Keeps s₂ s₃) E' s₂
def ItOk (X : Cx) (scope : Scope) (x : Str) (elt : Expr) (P : Addr) (v : V) (σ : L2.St) (H1 : Hp) (n : Nat) (pb : Nat → Bool) : Prop :=
  ∀ (pins : List (Addr × Obj)) (s : Shared) (u : Value), Inv X pins σ H1 s → RelV v u → ∃ Pf, Iters X P u s n Pf ∧ EltOk X scope x elt P s Pf pb
/-- the generator, ready to be walked -/
def Rdy (X : Cx) (pins : List (Addr × Obj)) (σ : L2.St) (H1 : Hp) (n : Nat) (pb : Nat → Bool) (g : Addr) (s5 : Shared) : Prop :=
  ∃ (fp wr : List Addr) (G : Array GenState → Array GenState → Prop) (F : Nat → Value → Prop) (St : Nat → Shared → Prop),
    WalksS X.prog X.w X.A.in1 g fp wr G n F St ∧ St 0 s5 ∧ TruthOf X.prog X.w X.A.in1 F pb ∧ ∀ s', Moved wr G s5 s' → Inv X pins σ H1 s'
theorem gen_tab {c P : Addr} {elt iter : Expr} {x : Str} {px gpos : Pos} {scope : Scope} {te : TE} {k : Nat} {Q' : Value → Shared → Prop} {R : Nat → (Nat → Bool) → Hp → Prop}
    (hr : Room k X.A) (TB : GxR.TabB X.base X.mg c P) (hcode : X.env.code = .ref c) (S : GxR.GenS X.env scope x) (hi : PE X iter te) (hs : ∀ v, genFold iter X.env v = pure v) (I : Inv X pins σ H s)
    (h : te σ H fun v H1 => H1 P = some (TabO P) ∧ ∃ n pb, ItOk X scope x elt P v σ H1 n pb ∧ R n pb H1)
    (hQ : ∀ n pb H1 g s5, R n pb H1 → Rdy X pins σ H1 n pb g s5 → Q' (.ref g) s5) :
    wpAny (model X.prog X.w) X.A (eval (.GeneratorExp elt [⟨.Name x px, iter, [], 0⟩] scope gpos) X.env) Q' X.xe s := by
  refine wpAny_GeneratorExp_walksQD hr.hd S.co (closure_ok S.free) S.cell S.dot S.loc S.kind (by have := hr.dp; omega) ?_ hs
  refine thn (hi.run pins s σ H _ I h) fun xv s1 ⟨v, H1, I1, r1, q1⟩ => ?_
  obtain ⟨hP, n, pb, it, rr⟩ := q1
  obtain ⟨Pf, hit, hel⟩ := it pins s1 xv I1 r1
  refine hit _ fun o fp St W hst hfp => ?_
  obtain ⟨⟨ps, hPs, ht⟩, _, _⟩ := I1.hok P _ hP
  have hPlt : P < s1.heap.objs.size := Heap.lt_size hPs
  have hP2 : (s1.heap.push o).get? P = some { cls := .none, data := .fields ps } := Heap.get?_push_of_some _ hPs
  have cd : PySem.W.CodeHd (s1.heap.push o) c P := TB.code.keeps fun b u e => Heap.get?_push_of_some _ (I1.bk b u e)
  have lim2 : (s1.heap.push o).NoLimit := I1.nolimit.push o
  have sz2 : (s1.heap.push o).objs.size = s1.heap.objs.size + 1 := Heap.size_push ..
  have cont : ∀ (code : Value) (h3 : Heap) (tk : Nat) (ps' : Array Value), Heap.ExtBut P (s1.heap.push o) h3 → (s1.heap.push o).objs.size ≤ h3.objs.size → h3.get? P = some { cls := .none, data := .fields ps' } → TriplesOk ps'.toList →
      wpAny (model X.prog X.w) X.A (builtinsFor X.env.globals X.env.builtins) (fun bi s₄ =>
        ∃ Ia fp wr n₀ Pf St₀ pz F, Value.ref s1.heap.objs.size = .ref Ia ∧ (∀ A' : Around, A'.handled = none → Walks X.prog X.w A' Ia fp wr n₀ Pf St₀) ∧ St₀ 0 s₄.heap ∧ (∀ b ∈ fp, b < s₄.heap.objs.size) ∧ s₄.heap.NoLimit ∧ cStatics ∉ wr ∧
          (∀ href : Heap, (∀ b o, s₄.heap.get? b = some o → href.get? b = some o) →
            QuietGenD X.prog X.w (genEnv scope (cloFrom X.env.cells scope.names []) s₄.heap.objs.size code bi X.env) x [] elt (List.range s₄.heap.objs.size) wr Pf pz F href (X.A.depth + 1) (X.A.units + 8)) ∧
          (∀ a h₅ tk gs, gs.bare = true → s₄.heap.objs.size < a → h₅.objs.size = a + 1 → (∀ b o, s₄.heap.get? b = some o → h₅.get? b = some o) →
            WalksS X.prog X.w X.A.in4 a (a :: s₄.heap.objs.size :: List.range s₄.heap.objs.size) (s₄.heap.objs.size :: wr) (GenOnlyQ s₄.gens.size) (passing pz n₀ 0).length
              (fun j y => ∃ i, (passing pz n₀ 0)[j]? = some i ∧ F i y) (GenAt X.prog X.w X.A.in4 a s₄.gens.size s₄.heap.objs.size (List.range s₄.heap.objs.size) wr pz n₀ F) →
            GenAt X.prog X.w X.A.in4 a s₄.gens.size s₄.heap.objs.size (List.range s₄.heap.objs.size) wr pz n₀ F 0 { s₄ with gens := s₄.gens.push gs, toks := tk, heap := h₅ } →
            Q' (.ref a) { s₄ with gens := s₄.gens.push gs, toks := tk, heap := h₅ })) X.xe { s1 with heap := h3, toks := tk } := by
    intro code h3 tk ps' hx hsz hP3 ht3
    obtain ⟨bm, ob, e1, e2, e3, e4, e5, e6, e7, e8⟩ := TB.bm
    have hcP : cStatics ≠ P := fun e => by
      obtain ⟨_, ⟨o', es, ep, ho, hd, _⟩, _⟩ := I1.nolimit
      rw [e, hPs] at ho
      cases ho
      cases hd
    have hcl : cStatics < s1.heap.objs.size := let ⟨_, hns, _⟩ := I1.nolimit; hns.lt
    have keep3 : ∀ b u, b ≠ P → s1.heap.get? b = some u → h3.get? b = some u := fun b u hb e => hx b u hb (Heap.get?_push_of_some _ e)
    have nIt : ∀ b u, s1.heap.get? b = some u → b ≠ s1.heap.objs.size := fun b u e => Nat.ne_of_lt (Heap.lt_size e)
    refine wpAny_builtinsFor (m := X.mg) (by rw [I1.ok.glob]; exact ((I1.mod.glob.keeps I1.bk).push o).extBut hx TB.gP) e1 e2 (keep3 _ _ e4 (I1.bk _ _ e5)) e6 e7 e8 ?_
    refine ⟨s1.heap.objs.size, fp, [s1.heap.objs.size], n, Pf, St, (fun _ => true), (fun i y => y = .bool (pb i)), rfl, W, ?_, ?_, lim2.extBut hx hcP, ?_, ?_, ?_⟩
    · exact (W X.A hr.hd).frame _ _ _ hst fun b hb u e => hx b u (hfp b hb).2 e
    · exact fun b hb => Nat.lt_of_lt_of_le (Nat.lt_succ_of_le (hfp b hb).1) (show s1.heap.objs.size + 1 ≤ h3.objs.size by omega)
    · intro z
      rcases List.mem_cons.mp z with z | z
      · exact Nat.ne_of_lt hcl z
      · cases z
    · intro href hhref
      refine ⟨fun A' E' i v s₂ m₂ hA _ _ hPv hn hm hk => ?_, fun A' E' i v s₂ m₂ hA hD hU hPv hp hn hm hk => ?_⟩
      · simp only [List.forIn_nil]
        exact wpAny_pure ⟨rfl, GxR.keeps_refl _⟩
      · refine wpAny_mono (hel _ A' E' i v s₂ m₂ ⟨rfl, rfl, rfl, rfl⟩ hA hD hU hPv hn hm fun b u hb e => hk b ?_ ?_ u (hhref b u (keep3 b u hb e))) (fun y s3 r => r) fun _ _ e => e
        · exact List.mem_range.mpr (Heap.lt_size (keep3 b u hb e))
        · intro z
          rcases List.mem_cons.mp z with z | z
          · exact nIt b u e z
          · cases z
    · intro g h5 tk5 gs hgb hag hsz5 hk5 W5 hat
      simp only [GxR.passing_true, List.length_range] at W5
      refine hQ n pb H1 g _ rr ⟨_, _, _, _, _, W5.in4_1, hat, ?_, fun s' hm => ?_⟩
      · intro j y sj Qj Ej hy hQj
        obtain ⟨i, hij, rfl⟩ := hy
        obtain ⟨hj, ej⟩ := List.getElem?_eq_some_iff.mp hij
        rw [List.getElem_range] at ej
        subst ej
        exact wpAny_truthy_bool hQj
      · have nwr : ∀ b u, s1.heap.get? b = some u → b ∉ h3.objs.size :: [s1.heap.objs.size] := fun b u e hb => by
          have hl := Heap.lt_size e
          rcases List.mem_cons.mp hb with z | z
          · rw [z] at hl
            have h9 : (h3.objs.size : Nat) < s1.heap.objs.size := hl
            omega
          · rcases List.mem_cons.mp z with z | z
            · exact nIt b u e z
            · cases z
        have J := inv_tabO (h' := s'.heap) (g' := s'.gens) (d' := s'.drawn) (t' := s'.toks) I1 hP (fun b u hb e => hm.heap b u (nwr b u e) (hk5 b u (keep3 b u hb e))) (hm.heap P _ (nwr P _ hPs) (hk5 P _ hP3)) ht3
          (AllBare.movedS (I1.bare.push hgb) hm)
        rw [GxR.sh_eta s1 s' hm.os] at J
        exact J
  refine ⟨lim2, ?_⟩
  cases hf : codeAmong gpos ps.toList with
  | none =>
    refine wpAny_genexprCodeX hcode (cd.code hP2 ht) (cd.tab hP2) hf fun c' h' tk hx hge hlt hco' _ htab' _ => ?_
    obtain ⟨o1, vs, f1, tf, fl, tg, inF, tx, tt, op, _, _, _, _, _, _, _, _, _, htr, _⟩ := hco'
    exact cont _ h' tk _ hx (Nat.le_trans hge (Nat.le_of_lt hlt)) htab'.2 htr
  | some cv =>
    refine wpAny_genexprCode_hit hcode (cd.code hP2 ht) hf ?_
    exact cont cv (s1.heap.push o) s1.toks ps (Heap.ExtBut.refl _ _) (Nat.le_refl _) hP2 ht

/-- all(test for x in e), any(test for x in e) -/
def tAllG (X : Cx) (P : Addr) (scope : Scope) (x : Str) (elt : Expr) (te : TE) : TE := fun σ H Q => te σ H fun v H1 => H1 P = some (TabO P) ∧ ∃ n pb, ItOk X scope x elt P v σ H1 n pb ∧ Q (.bl ((List.range n).all pb)) H1
theorem pe_allG {c P : Addr} {elt iter : Expr} {x : Str} {px p pos gpos : Pos} {scope : Scope} {te : TE} {k : Nat} (TB : GxR.TabB X.base X.mg c P) (hr : Room k X.A) (hg : Gl X "all") (hm : X.mg "all" = none) (hcode : X.env.code = .ref c) (S : GxR.GenS X.env scope x) (hi : PE X iter te)
    (hs : ∀ v, genFold iter X.env v = pure v)
    (he : starEach [.GeneratorExp elt [⟨.Name x px, iter, [], 0⟩] scope gpos] X.env = (false, eval (.GeneratorExp elt [⟨.Name x px, iter, [], 0⟩] scope gpos) X.env) :: starEach [] X.env := by rfl) :
    PE X (.Call (.Name "all" p) [.GeneratorExp elt [⟨.Name x px, iter, [], 0⟩] scope gpos] [] pos) (tAllG X P scope x elt te) := by
  refine ⟨fun pins s σ H Q I h => ?_⟩
  refine wpAny_Call_Name_kw (ld_blt I hg hm (show bootBuiltins "all" = some (.builtin "all") by first | decide +kernel | kernel_rfl) ?_)
  refine PyProof.Rows.callWith_builtin1 ?_ he (by rfl)
  rw [he]
  show wpAny _ _ (spliced ((false, eval (.GeneratorExp elt [⟨.Name x px, iter, [], 0⟩] scope gpos) X.env) :: backTo pos (starEach [] X.env))) _ _ s
  refine Calls.spliced_cons (gen_tab (R := fun n pb H1 => Q (.bl ((List.range n).all pb)) H1) hr TB hcode S hi hs I h fun n pb H1 g s5 hR hG => ?_)
  obtain ⟨fp, wr, G, F, St, W, hst, htr, hI⟩ := hG
  refine Calls.spliced_nil ?_
  exact call_all_walkS (W.self 0 _ _ _ hst ⟨g, fp, wr, G, _, F, St, _, rfl, W, hst, htr, fun s' hmv => ⟨.bl _, H1, hI s' hmv, rfl, hR⟩⟩)
end
end Lk

namespace Lk
open PySem PySem.Spec PyProof.Rows L2 Evl
section
variable {X : Cx} {pins : List (Addr × Obj)} {σ : L2.St} {H : Hp} {s1 s : Shared} {P : Addr} {Pf : Nat → Value → Prop} {n : Nat}
theorem tab_at (I : Inv X pins σ H s1) (hP : H P = some (TabO P)) : ∃ ps : Array Value, s1.heap.get? P = some { cls := .none, data := .fields ps } := by
  obtain ⟨⟨ps, e, _⟩, _, _⟩ := I.hok P _ hP
  exact ⟨ps, e⟩
theorem tab_lt (I : Inv X pins σ H s1) (hP : H P = some (TabO P)) : P < s1.heap.objs.size := let ⟨_, e⟩ := tab_at I hP; Heap.lt_size e
theorem tab_base (I : Inv X pins σ H s1) (hP : H P = some (TabO P)) {b : Addr} {o : Obj} (e : X.base.get? b = some o) : b ≠ P := fun z => by
  have q := (I.bs b o e).2
  rw [z, hP] at q
  cases q
theorem it_str {a : Str} {t : Tok} (hP : P < s1.heap.objs.size) : Iters X P (.str a t) s1 a.cps.size (SignAt a) := fun Q h => by
  refine wpAny_pyIter_str fun o St W hst => h o _ St W hst fun b hb => ?_
  rcases List.mem_cons.mp hb with z | z
  · rw [z]
    exact ⟨Nat.le_refl _, Nat.ne_of_gt hP⟩
  · cases z
theorem it_tup {a : Addr} {its : Array Value} (hP : P < s1.heap.objs.size) (ha : s1.heap.IsTuple a its) (hne : a ≠ P) : Iters X P (.ref a) s1 its.size (fun i v => its[i]? = some v) := fun Q h => by
  have hlt : a < s1.heap.objs.size := let ⟨_, e, _⟩ := ha; Heap.lt_size e
  refine wpAny_pyIter_tuple ha (h _ _ (fun i hp => hp.IsTupleIter s1.heap.objs.size a i ∧ hp.IsTuple a its) (fun A' hA => Walks.tuple hA _ _ (Nat.ne_of_lt hlt) _) ⟨⟨_, Heap.get?_push_size _ rfl, rfl, rfl⟩, ha.push _⟩ fun b hb => ?_)
  rcases List.mem_cons.mp hb with z | z
  · rw [z]
    exact ⟨Nat.le_refl _, Nat.ne_of_gt hP⟩
  · rcases List.mem_cons.mp z with z | z
    · rw [z]
      exact ⟨Nat.le_of_lt hlt, hne⟩
    · cases z
/-! ### names in the generator's own frame -/
section
variable {scope : Scope} {cenv : Env} {A' : Around} {E' : Value → Shared → Prop} {s₂ : Shared} {m₂ : Str → Option Value} {x : Str} {v u : Value} {p : Pos} {Q : Value → Shared → Prop}
theorem ge_own (GE : GEnv X scope cenv) (hk : scope.kind = .function) (hl : scope.names.lookup x = some .local) (hn : s₂.heap.Ns cenv.locals m₂) (hm : m₂ x = some v) (hd : (x == ("__debug__" : Str)) = false) (h : Q v s₂) : wpAny (model X.prog X.w) A' (eval (.Name x p) cenv) Q E' s₂ :=
  wpAny_Name (wpAny_loadName_local (by rw [GE.sc]; exact hk) (show cenv.scope.names.lookup x = some .local by rw [GE.sc]; exact hl) hn hm h) hd
theorem ge_kb (I : Inv X pins σ H s1) (hP : H P = some (TabO P)) (kp : ∀ b o, b ≠ P → s1.heap.get? b = some o → s₂.heap.get? b = some o) : ∀ b o, X.base.get? b = some o → s₂.heap.get? b = some o := fun b o e => kp b o (tab_base I hP e) (I.bk b o e)
theorem ge_blt (I : Inv X pins σ H s1) (kb : ∀ b o, X.base.get? b = some o → s₂.heap.get? b = some o) (GE : GEnv X scope cenv) (hk : scope.kind = .function) (hl : scope.names.lookup x = some .globalImplicit)
    (hm : X.mg x = none) (hv : bootBuiltins x = some u) (hn : x ≠ "__name__") (hd : (x == ("__debug__" : Str)) = false) (h : Q u s₂) : wpAny (model X.prog X.w) A' (eval (.Name x p) cenv) Q E' s₂ := by
  obtain ⟨mb, h1, h2⟩ := I.mod.blt
  exact Calls.Name_function_global (by rw [GE.sc]; exact hk) (show cenv.scope.names.lookup x = _ by rw [GE.sc]; exact hl) (Calls.loadGlobal_builtin (by rw [GE.gl, I.ok.glob]; exact I.mod.glob.keeps kb) hm (by rw [GE.bi]; exact h1.keeps kb) ((h2 x hn).trans hv) h) hd
end
/-! ### 'a' <= sign <= 'z' -/
def btw (lo hi : Str) (c : Nat) : Bool := !decide ([c] < lo.cps.toList) && !decide (hi.cps.toList < [c])
theorem elt_btw {scope : Scope} {x : Str} {lo hi a : Str} {j1 j2 : Nat} {p1 p2 p3 p4 : Pos} (hk : scope.kind = .function) (hl : scope.names.lookup x = some .local) (hd : (x == ("__debug__" : Str)) = false) :
    EltOk X scope x (.Compare (.Constant (.str lo) j1 p1) [.LtE, .LtE] [.Name x p2, .Constant (.str hi) j2 p3] p4) P s1 (SignAt a) (GxR.trF (btw lo hi) a.cps.toList) := by
  intro cenv A' E' i v s₂ m₂ GE hA hD hU hv hn hm kp
  obtain ⟨c, u, hc, rfl⟩ := hv
  have hc2 : a.cps.toList[i]? = some c := by rw [Array.getElem?_toList]; exact hc
  rw [GxR.trF_some hc2]
  refine Compare_chain (Calls.Constant_str (chain_link (ge_own GE hk hl hn hm hd (PySem.P.le_str (wpAny_truthy_bool ?_)))))
  show if (!decide ([c] < lo.cps.toList)) = true then _ else _
  cases h : !decide ([c] < lo.cps.toList) with
  | false => exact ⟨by unfold btw; rw [h]; rfl, GxR.keeps_tok _ _⟩
  | true =>
    refine chain_last (Calls.Constant_str (PySem.P.le_str ⟨?_, ?_⟩))
    · unfold btw
      rw [h]
      rfl
    · exact ⟨_, _, rfl, fun _ _ e => e⟩
theorem ok_signs {scope : Scope} {x : Str} {lo hi a : Str} {j1 j2 : Nat} {p1 p2 p3 p4 : Pos} (hk : scope.kind = .function) (hl : scope.names.lookup x = some .local) (hP : H P = some (TabO P)) (hd : (x == ("__debug__" : Str)) = false := by decide) :
    ItOk X scope x (.Compare (.Constant (.str lo) j1 p1) [.LtE, .LtE] [.Name x p2, .Constant (.str hi) j2 p3] p4) P (.str a) σ H a.cps.size (GxR.trF (btw lo hi) a.cps.toList) := fun pins s u I r => by
  obtain ⟨t, rfl⟩ := _root_.id r
  exact ⟨_, it_str (tab_lt I hP), elt_btw hk hl hd⟩
/-! ### isinstance(x, str) of texts -/
theorem tup_ne {a : Addr} {xs : List V} (I : Inv X pins σ H s1) (hP : H P = some (TabO P)) (ha : SqT X.K H a xs) : a ≠ P := fun z => by
  obtain ⟨ps, e⟩ := tab_at I hP
  obtain ⟨its, r, ⟨o, h1, h2, n, h3⟩, _⟩ := I.tuple ha
  rw [z, e] at h1
  cases h1
  cases h2
end
end Lk

namespace Lk
open PySem PySem.Spec PyProof.Rows L2 Evl
/-! ### defs that hold a generator expression: their code object is named -/
structure AtC (K : PySem.W.Frag) (mg : Str → Option Value) (x : Str) (st : Stmt) (ps : List Str) (c : Addr) : Prop where
  ex : ∃ f fd, Fun K x x st f fd ∧ mg x = some (.ref f) ∧ Binds K fd ps [] ∧ fd.code = .ref c
section
variable {P : Program} {w : World} {K : PySem.W.Frag} {mg : Str → Option Value} {base : Heap} {x : Str} {st : Stmt} {ps : List Str} {k : Nat} {sp : Sp} {c : Addr}
theorem AtC.of (A : AtC K mg x st ps c) (h : ∀ f fd, Fun K x x st f fd → fd.code = .ref c → FnOk P w K mg base CX0 k f fd ps sp) : Cal P w K mg base k x sp := by
  obtain ⟨f, fd, F1, g, b, e⟩ := A.ex
  exact ⟨⟨f, fd, ps, h f fd F1 e, g, F1.kp, b⟩⟩
end
/-- a look at a generator expression's scope: no name of its own in a cell, none captured -/
def gsB (sc : Scope) (x : Str) : Bool := sc.kind == .function && (!sc.isCoroutine && (sc.names.all (fun y => y.2 != .cell && y.2 != .free) && (sc.names.lookup (".0" : Str) == some NameKind.local && sc.names.lookup x == some NameKind.local)))
theorem genS0 {env : Env} {sc : Scope} {x : Str} (h : gsB sc x = true) : GxR.GenS env sc x := by
  unfold gsB at h
  simp only [Bool.and_eq_true, beq_iff_eq, Bool.not_eq_true', List.all_eq_true, bne_iff_ne, ne_eq] at h
  obtain ⟨h1, h2, h3, h4, h5⟩ := h
  exact ⟨h1, h2, fun y hy => (h3 y hy).1, h4, h5, fun y hy e => absurd e (h3 y hy).2⟩
/-- .. with captured names: they are in the def's cells -/
def gsF (sc : Scope) (x : Str) (fr : List Str) : Bool := sc.kind == .function && (!sc.isCoroutine && (sc.names.all (fun y => y.2 != .cell && (y.2 != .free || fr.contains y.1)) && (sc.names.lookup (".0" : Str) == some NameKind.local && sc.names.lookup x == some NameKind.local)))
theorem genSF {env : Env} {sc : Scope} {x : Str} {fr : List Str} (h : gsF sc x fr = true) (hf : ∀ y ∈ fr, ∃ c, env.cells.lookup y = some c) : GxR.GenS env sc x := by
  unfold gsF at h
  simp only [Bool.and_eq_true, Bool.or_eq_true, beq_iff_eq, Bool.not_eq_true', List.all_eq_true, bne_iff_ne, ne_eq, List.contains_iff_mem] at h
  obtain ⟨h1, h2, h3, h4, h5⟩ := h
  exact ⟨h1, h2, fun y hy => (h3 y hy).1, h4, h5, fun y hy e => hf y.1 ((h3 y hy).2.resolve_left fun z => z e)⟩
/-! ### the tables, as the top leaves them -/
def Tabs (q : Program) (K : PySem.W.Frag) (mg : Str → Option Value) (h : Heap) : Prop := ∀ (name : Str) (f c P : Addr) (oc e : Value) (od dd : Option Addr) (fd : FuncData) (vs : Array Value) (sl sl' : Array (Option Value)), ((recsOf q).any fun d => d.name == name) = true →
  mg name = some (.ref f) → K.lookup f = some ⟨oc, od, .func fd, sl⟩ → fd.code = .ref c → K.lookup c = some ⟨e, dd, .fields vs, sl'⟩ → vs[11]? = some (.ref P) → h.get? P = some { cls := .none, data := .fields #[] } ∧ PySem.W.CodeHd h c P
theorem tabs_of {q : Program} {loose : List Str} {R : PySem.W.WRecords} {XP : (Str → Option Value) → Heap → Prop} {w : World} {s₀ : Shared} {mg mb : Str → Option Value} {h : Heap} {K : PySem.W.Frag} (G : PySem.W.Ground q loose R XP w s₀ mg mb h) (KX : K.In h) : Tabs q K mg h := by
  intro name f c P oc e od dd fd vs sl sl' hrec hmg k1 k2 k3 k4
  obtain ⟨dL, hm, hn1⟩ := List.any_eq_true.mp hrec
  have hn2 : dL.name = name := beq_iff_eq.mp hn1
  obtain ⟨a', o', fd', c', P', h1, h2, h3, h4, h5, h6⟩ := G.T.tab dL hm
  rw [hn2, hmg] at h1
  cases h1
  have g1 := KX _ _ k1
  rw [g1] at h2
  cases h2
  cases h3
  rw [k2] at h4
  cases h4
  have h6' := h6
  obtain ⟨⟨oc', vc, e1, _, e3, e4⟩, hP⟩ := h6
  have g2 := KX _ _ k3
  rw [g2] at e1
  cases e1
  cases e3
  rw [k4] at e4
  cases e4
  exact ⟨hP, PySem.W.CodeHd.of h5 h6'⟩
/-! ### data of any depth in a tuple -/
def rInDT (K : PySem.W.Frag) : R2 := fun x y H Q => ∃ d ds, Dp K H x d ∧ Dp K H y (.tuple ds) ∧ SeqAt.shaped d = true ∧ SeqAt.shaped (.tuple ds) = true ∧ Q (.bl (ds.any fun z => PyData.eqv z d)) H
theorem op_inDT {X : Cx} (hu : X.A.units + 65 < cLine) : OpR X (compareOp .In) (rInDT X.K) := by
  intro pins s σ H x y v u Q I rx ry h
  obtain ⟨d, ds, hd, he, sd, se, q⟩ := h
  obtain ⟨as, r1⟩ := Dp.reads I d x v hd rx
  obtain ⟨bs, r2⟩ := Dp.reads I (.tuple ds) y u he ry
  exact SeqAt.in_tuple_reads r2 r1 (SeqAt.canLay_of_shaped se) (SeqAt.canLay_of_shaped sd) (room_in_shaped sd hu) ⟨.bl _, H, I, rfl, q⟩
/-! ### kinds of a thing -/
end Lk
namespace L2
open PySem
theorem Room.u65 {k : Nat} {A : Around} (r : Room k A) : A.units + 65 < cLine := by have := r.un; omega
end L2
namespace Lk
open PySem PySem.Spec PyProof.Rows L2 Evl
end Lk

namespace Lk
open PySem PySem.Spec PyProof.Rows L2 Evl
section
variable {X : Cx} {pins : List (Addr × Obj)} {σ : L2.St} {H : Hp} {s1 s : Shared} {P : Addr}
theorem all_ix {α : Type} (f : α → Bool) (ws : List α) : (List.range ws.length).all (fun i => (ws[i]?.map f).getD false) = ws.all f := by
  rw [Bool.eq_iff_iff, List.all_eq_true, List.all_eq_true]
  constructor
  · intro h b hb
    obtain ⟨j, hj, e⟩ := List.getElem_of_mem hb
    have q := h j (List.mem_range.mpr hj)
    rw [List.getElem?_eq_getElem hj, e] at q
    exact q
  · intro h j hj
    have hj' := List.mem_range.mp hj
    rw [List.getElem?_eq_getElem hj']
    exact h _ (List.getElem_mem hj')
end
/-! ### a call by two keywords, the second parameter first -/
section
variable {X : Cx} {k j : Nat} {x a b : Str} {sp : Sp} {p pos : Pos} {kws : List Keyword} {tk : TA}
end
/-! ### in a comprehension's block: K by name -/
section
variable {X : Cx} {K : PySem.W.Frag}
end
/-! ### comprehensions over a tuple, a list: a test and an item that leave the heap -/
end Lk

namespace Lk
open PySem PySem.Spec PyProof.Rows L2 Evl GenW NdefX

/-! ### all, any of a generator expression whose elements may call defs -/
/-- the generator's slots: its iterator, its name, what it captured -/
def gS (σ : L2.St) (cs : List Nat) : L2.St := none :: none :: cs.map (slotAt σ)
def gN (N : List Str) (x : Str) (cs : List Nat) : List Str := ".0" :: x :: cs.map fun j => N.getD j ""
/-- the generator's frame, for its element -/
def gx (X : Cx) (s4 : Shared) (H1 : Hp) (cenv : Env) (A' : Around) (N' : List Str) (fp : List Addr) (pn : List (Addr × Obj)) : Cx where
  prog := X.prog
  w := X.w
  K := X.K
  mg := X.mg
  base := X.base
  A := A'
  N := N'
  s_0 := s4
  H_0 := H1
  env := cenv
  outer := X.stack
  stack := cenv :: X.stack
  ex := fp
  fn := fun _ => false
  calm := true
  pn := pn
  xe := fun _ _ => False
section
variable {X : Cx} {pins : List (Addr × Obj)} {σ : L2.St} {H H1 : Hp} {s s' s4 s5 : Shared} {cenv : Env} {A' : Around} {x : Str} {cs : List Nat} {fp : List Addr} {scope : Scope} {a : Addr} {go : Obj} {m0 : Str → Option Value}
/-- a captured name -/
def CapOk (X : Cx) (scope : Scope) (cs : List Nat) : Prop := ∀ j ∈ cs, ∃ y, X.N[j]? = some y ∧ scope.names.lookup y = some .free ∧ (X.env.kindOf y = some .cell ∨ X.env.kindOf y = some .free)
theorem inv_gens (I : Inv X pins σ H s) (hh : s'.heap = s.heap) (ho : s'.os = s.os) (hg : AllBare s'.gens) : Inv X pins σ H s' :=
  I.call' (ch := []) ho (Un.kept fun b u e => by rw [hh]; exact e) (I.hok.kept fun b u e => by rw [hh]; exact e) hg fun b hb => by cases hb
theorem inv_gx (I : Inv X pins σ H1 s4) (S : GxR.GenS X.env scope x) (hcs : CapOk X scope cs) (hf : ∀ b ∈ fp, FpOk X pins H1 b) (hfl : ∀ b ∈ fp, b < s4.heap.objs.size)
    (e1 : cenv.scope = scope) (e2 : cenv.globals = X.env.globals) (e3 : cenv.builtins = builtinsNs) (e4 : cenv.cells = cloFrom X.env.cells scope.names []) (e5 : cenv.locals = s4.heap.objs.size) (e6 : cenv.frame = some cenv.locals)
    (hA : A'.handled = none) (hfr : A'.frames = some (cenv :: X.stack)) (os : s5.os = s4.os) (bare : AllBare s5.gens) (kp : ∀ b o, s4.heap.get? b = some o → s5.heap.get? b = some o) (hns : s5.heap.Ns cenv.locals m0)
    (ha : s5.heap.get? a = some go) (hl : s4.heap.objs.size < a) (hgo : ∀ v, go.data ≠ .cell v) : Inv (gx X s4 H1 cenv A' (gN X.N x cs) fp [(a, go)]) [] (gS σ cs) H1 s5 := by
  have hsub : ∀ y c, cenv.cells.lookup y = some c → X.env.cells.lookup y = some c := fun y c e => by
    rw [e4] at e
    exact clo_cm S.free e
  have hfree : ∀ y, cenv.kindOf y = some .cell ∨ cenv.kindOf y = some .free → (y, NameKind.free) ∈ scope.names := fun y h => by
    have h : scope.names.lookup y = some .cell ∨ scope.names.lookup y = some .free := by rw [← e1]; exact h
    rcases h with h | h
    · exact absurd rfl (S.cell _ (PySem.mem_of_lookup h))
    · exact PySem.mem_of_lookup h
  have old : ∀ y c, cenv.cells.lookup y = some c → ∃ v o, s4.heap.get? c = some o ∧ o.data = .cell v := fun y c e => by
    obtain ⟨v, o, ho, hd⟩ := I.cell y c (hsub y c e)
    exact ⟨v, o, ho, hd⟩
  have notst : ∀ b, (b ≠ X.env.locals ∧ b ∉ X.fs) → b ∉ frs X.stack := fun b ⟨h1, h2⟩ hm => (List.mem_cons.mp (I.stkSub b hm)).elim h1 h2
  refine ⟨⟨I.ok.mod, (by show cenv.scope.kind = _; rw [e1]; exact S.kind), (by show cenv.globals = _; rw [e2]; exact I.ok.glob), e3, Nat.le_of_eq e5.symm, (fun y z c h1 h2 => I.ok.inj y z c (hsub y c h1) (hsub z c h2)), (fun y hy => ?_), (fun _ _ h => nomatch h), (fun _ => hA), hfr, .inr ⟨rfl, e6⟩,
    fun b hb => ⟨?_, fun y c e z => ?_⟩, I.bs, Nat.le_trans I.ok.bsz I.sz, fun b o e hb => ?_, fun b hb => notst b ⟨(hf b hb).2.1, (hf b hb).2.2.1⟩, I.stack, I.stkFree⟩, os, bare, Un.kept kp, ⟨m0, hns, fun i y v h1 h2 h3 => ?_⟩, fun y c e => ?_, ?_, fun y c e => I.freeC y c (hsub y c e), fun p hp => ?_, I.hok.kept kp, ?_⟩
  · obtain ⟨c, hc⟩ := S.free _ (hfree y hy) rfl
    refine ⟨c, ?_⟩
    show cenv.cells.lookup y = some c
    rw [e4]
    exact clo_has S.free (hfree y hy) hc
  · show b ≠ cenv.locals
    rw [e5]
    exact Nat.ne_of_lt (hfl b hb)
  · exact (hf b hb).2.2.2.2.1 y c (hsub y c e) z
  · rcases (hf b hb).2.2.2.1 with z | z
    · exact I.ok.noex b o e z
    · exact absurd (Nat.lt_of_lt_of_le (Heap.lt_size e) (Nat.le_trans I.ok.bsz z)) (Nat.lt_irrefl _)
  · have h1 : (gN X.N x cs)[i]? = some y := h1
    have h2 : (gS σ cs)[i]? = some (some v) := h2
    match i, h1, h2 with
    | 0, _, h2 => cases h2
    | 1, _, h2 => cases h2
    | i + 2, h1, h2 =>
      have h1 : (cs.map fun j => X.N.getD j "")[i]? = some y := h1
      have h2 : (cs.map (slotAt σ))[i]? = some (some v) := h2
      rw [List.getElem?_map] at h1 h2
      cases ej : cs[i]? with
      | none => rw [ej] at h1; cases h1
      | some j =>
        rw [ej] at h1 h2
        have h1 : X.N.getD j "" = y := Option.some.inj h1
        have h2 : slotAt σ j = some v := Option.some.inj h2
        obtain ⟨y', hy, hl', hk⟩ := hcs j (List.mem_of_getElem? ej)
        have ey : y' = y := by
          rw [List.getD_eq_getElem?_getD, hy] at h1
          exact h1
        subst ey
        obtain ⟨m, hn, hlk⟩ := I.loc
        have vis : Vis X.env.scope y' := by
          rcases hk with k | k
          · exact .inr (.inl k)
          · exact .inr (.inr k)
        obtain ⟨u, r, q⟩ := hlk j y' v hy (slotAt_some h2) vis
        refine ⟨u, r, .inr ⟨.inr (by show cenv.scope.names.lookup y' = _; rw [e1]; exact hl'), ?_⟩⟩
        rcases q with ⟨k, _⟩ | ⟨_, c, hc, o, ho, hd⟩
        · rcases hk with z | z <;> (rw [k] at z; cases z)
        · refine ⟨c, ?_, o, kp c o ho, hd⟩
          show cenv.cells.lookup y' = some c
          rw [e4]
          exact clo_has S.free (PySem.mem_of_lookup hl') hc
  · obtain ⟨v, o, ho, hd⟩ := old y c e
    exact ⟨v, o, kp c o ho, hd⟩
  · show H1 cenv.locals = none
    rw [e5]
    exact I.hok.fresh (Nat.le_refl _)
  · have hp : p ∈ [(a, go)] ++ [] := hp
    rw [List.append_nil] at hp
    obtain rfl := List.mem_singleton.mp hp
    refine ⟨ha, I.hok.fresh (Nat.le_of_lt hl), ?_, fun hm => ?_, hgo⟩
    · show a ≠ cenv.locals
      rw [e5]
      exact Nat.ne_of_gt hl
    · have hm : a ∈ frs X.stack := hm
      obtain ⟨_, o, ho, _⟩ := I.stack.mem hm
      exact absurd (Nat.lt_trans hl (Heap.lt_size ho)) (Nat.lt_irrefl _)
  · show (gS σ cs).length = (gN X.N x cs).length
    unfold gS gN
    simp
end
/-- a generator expression's code over the frame -/
theorem over_gen {A : Around} {elt : Expr} {gs : List Comprehension} {sc : Scope} {pos : Pos} {it acc : Value} {env : Env} : A.over (.compLoop (.GeneratorExp elt gs sc pos) 0 it acc env) [] = A.deeper env := by
  first
    | rfl
    | (obtain ⟨hd, d, fr, gs, u⟩ := A; simp [Around.over, Around.deeper, marksOver, frameCount, unitsOf, envsOf, guardsOf, pushEnvs, pushGuards, Code.envs, Code.env?, Code.isFrame, Code.guards, Code.isGuard, Code.weight, Code.frames, Code.isCreation, Code.isCaller, Code.cUnits])
end Lk

namespace Lk
open PySem PySem.Spec PyProof.Rows L2 Evl GenW NdefX
/-- a generator's turns: it goes on where the element is kp -/
def GenOk (J : It) (te : TE) (σg : L2.St) (kp : Bool) (QT QF : Hp → Prop) (W : Nat → Nat → Hp → Prop) : Prop :=
  ∀ i m H, W i m H → (J.stop i H ∧ QT H) ∨ (J.go i H ∧ ∀ v H2, J.yld i H v H2 → te (σg.set 1 (some v)) H2 fun r H3 => ∃ b, r = .bl b ∧ if b = kp then ∃ m', m' < m ∧ W (i + 1) m' H3 else QF H3)
def YGx (X : Cx) (σg : L2.St) (kp : Bool) (QF : Hp → Prop) : Protocol := fun n s₀ v s kap =>
  ∃ b H', v = .bool b ∧ Inv X [] σg H' s ∧ if b = kp then ∀ s' : Shared, s'.heap = s.heap → s'.os = s.os → AllBare s'.gens → kap (.send .none) s' else QF H'
def PGx (X : Cx) (σg : L2.St) (QT : Hp → Prop) : Nat → Shared → Shared → Prop := fun n s₀ s₁ => ∃ H', Inv X [] σg H' s₁ ∧ QT H'
abbrev RGx (X : Cx) (σg : L2.St) (QT : Hp → Prop) : GenEnd := fun n s₀ r s₁ => r = .ok .next ∧ PGx X σg QT n s₀ s₁
theorem allBare_set {s : Shared} {g : Nat} {x : GenState} (h : AllBare s.gens) (hx : x.bare = true) : AllBare (s.setGen g x).gens := by
  intro y hy
  have hy : y ∈ s.gens.setIfInBounds g x := hy
  obtain ⟨i, hi, rfl⟩ := Array.mem_iff_getElem.mp hy
  rw [Array.getElem_setIfInBounds]
  split
  · exact hx
  · exact h _ (Array.getElem_mem _)
  all_goals (simpa using hi)
section
variable {X : Cx} {A : Around} {elt iter : Expr} {x : Str} {px pos : Pos} {scope : Scope} {it : Addr} {fp : List Addr} {tn : Nat → Heap → Prop} {J : It} {te : TE} {σg : L2.St} {kp : Bool} {QT QF : Hp → Prop} {W : Nat → Nat → Hp → Prop}
structure GxOk (X : Cx) (A : Around) (x : Str) (fp : List Addr) (σg : L2.St) : Prop where
  A : A.deeper X.env = X.A
  calm : X.calm = true
  ex : X.ex = fp
  xe : ∀ e s, ¬ X.xe e s
  co : X.env.scope.isCoroutine = false
  nd : X.N.Nodup
  ix : X.N[1]? = some x
  loc : X.env.scope.names.lookup x = some .local
  no : σg[1]? = some none
  pn : ∀ p ∈ X.pn, p.1 ∉ fp
theorem GxOk.fok (o : GxOk X A x fp σg) {H : Hp} {s : Shared} {σ : L2.St} (I : Inv X [] σ H s) (h : ∀ b ∈ fp, H b = none) : ∀ b ∈ fp, FpOk X [] H b := fun b hb => by
  have hb' : b ∈ X.ex := by rw [o.ex]; exact hb
  refine ⟨h b hb, (I.ok.exf b hb').1, I.ok.exfs b hb', .inl hb', (I.ok.exf b hb').2, fun p hp e => ?_⟩
  rw [List.append_nil] at hp
  exact o.pn p hp (by rw [e]; exact hb)
theorem seg_gx (o : GxOk X A x fp σg) (T : Turn X.prog X.w X.K (.Name x px) J fp it tn) (pe : PE X elt te) (gw : GenOk J te σg kp QT QF W) :
    ∀ (m n i : Nat) (s₀ s : Shared) (H : Hp), m < n → W i m H → Inv X [] σg H s → tn i s.heap → (∀ b ∈ fp, H b = none) →
      Seg (model X.prog X.w) A (RGx X σg QT) (YGx X σg kp QF) n s₀ (.compLoop (.GeneratorExp elt [⟨.Name x px, iter, [], 0⟩] scope pos) 0 (.ref it) .none X.env)
        ((model X.prog X.w).den (.compLoop (.GeneratorExp elt [⟨.Name x px, iter, [], 0⟩] scope pos) 0 (.ref it) .none X.env)) [] s := by
  intro m
  induction m using Nat.strongRecOn with
  | ind m ih =>
    intro n i s₀ s H hn w I st hf
    have hov : ∀ {c : Code}, c = .compLoop (.GeneratorExp elt [⟨.Name x px, iter, [], 0⟩] scope pos) 0 (.ref it) .none X.env → A.over c [] = X.A := fun e => by rw [e]; exact over_gen.trans o.A
    show Seg _ A _ _ _ s₀ _ ((compTurn (.GeneratorExp elt [⟨.Name x px, iter, [], 0⟩] scope pos) 0 (.ref it) .none X.env).onRaise (leaving X.env)) [] s
    rw [compTurn_gen, Sem.onRaise_eq_wrap]
    refine seg_bind_wrap (wpAny_standAt ?_)
    rcases gw i m H w with ⟨stop, q⟩ | ⟨go, step⟩
    · refine seg_bind_wrap ?_
      rw [hov rfl]
      refine thnF (T.done X rfl rfl rfl o.calm i [] s σg H (fun _ _ => False) I (o.fok I hf) st stop) fun r s1 ⟨er, I1⟩ => ?_
      subst er
      exact seg_end (.ok .next) ⟨rfl, H, I1, q⟩
    · refine seg_bind_wrap ?_
      rw [hov rfl]
      refine thnF (T.item X rfl rfl rfl o.calm i [] s σg H (fun _ _ => False) I (o.fok I hf) st go) fun r s1 ⟨u, er, h1⟩ => ?_
      subst er
      refine seg_bind_wrap ?_
      rw [hov rfl]
      refine thnF h1 fun _ s2 ⟨v, H2, I2, rv, y, st2, hf2⟩ => ?_
      refine seg_bind_wrap (wpAny_assign_Name (store_ok2 (i := 1) I2 o.nd o.ix (.inl o.loc) rv (fun s3 I3 ⟨b3, sb, hb3⟩ => ?_) (.inr o.loc)))
      have fo := o.fok I2 hf2
      have st3 : tn (i + 1) s3.heap := T.keep _ _ _ st2 fun b hb ob e => by
        refine (sb.2 b ?_).trans e
        intro z
        rcases hb3 with q | q
        · exact (fo b hb).2.1 (z.trans q)
        · exact (fo b hb).2.2.2.2.1 _ _ q z.symm
      refine seg_bind_wrap (wpAny_of_eq (a := true) (by rfl) ?_)
      simp only [if_true]
      have hy : ∀ v, yieldOut X.env v = yieldValue v := fun v => by simp only [yieldOut, o.co, Bool.false_eq_true, if_false]
      simp only [hy]
      rw [Sem.bind_eq_wrap', Sem.bind_eq_wrap', Sem.wrap_wrap, Sem.wrap_wrap]
      refine seg_wrap ?_
      rw [hov rfl]
      have I3' := I3.pinned (o.fok I3 hf2) (T.obj _ _ st3)
      refine wpAny_mono (pe.run _ s3 _ H2 _ I3' (step v H2 y)) (fun z s4 ⟨r, H4, I4, rr, b, eb, q⟩ => ?_) fun e s' z => absurd z (o.xe e s')
      subst eb
      obtain rfl : z = Value.bool b := rr
      obtain ⟨n, rfl⟩ : ∃ k, n = k + 1 := ⟨n - 1, by omega⟩
      have pin4 : ∀ b ∈ fp, ∀ ob, s3.heap.get? b = some ob → s4.heap.get? b = some ob ∧ H4 b = none := fun b hb ob e =>
        let z := I4.pin (b, ob) (List.mem_append_right _ (List.mem_append_right _ (mem_pinsAt hb e)))
        ⟨z.1, z.2.1⟩
      have I5 : Inv X [] σg H4 s4 := (I4.unpinned (pins := [])).weak (by rw [List.length_set]) fun j w e => by
        by_cases hj : j = 1
        · rw [hj, o.no] at e
          cases e
        · rw [List.getElem?_set_ne (Ne.symm hj)]
          exact e
      have st5 : tn (i + 1) s4.heap := T.keep _ _ _ st3 fun b hb ob e => (pin4 b hb ob e).1
      have hf5 : ∀ b ∈ fp, H4 b = none := fun b hb => by
        obtain ⟨ob, e, _⟩ := T.obj _ _ st3 b hb
        exact (pin4 b hb ob e).2
      refine seg_at (seg_yield rfl rfl rfl ⟨b, H4, rfl, I5, ?_⟩)
      by_cases hb : b = kp
      · rw [if_pos hb] at q ⊢
        obtain ⟨m', hm, w'⟩ := q
        intro s' e1 e2 e3
        exact seg_again rfl (ih m' hm n (i + 1) s' s' H4 (by omega) w' (inv_gens I5 e1 e2 e3) (by rw [e1]; exact st5) hf5)
      · rw [if_neg hb] at q ⊢
        exact q
theorem seg_gxS (o : GxOk X A x fp σg) (T : Turn X.prog X.w X.K (.Name x px) J fp it tn) (pe : PE X elt te) (gw : GenOk J te σg kp QT QF W)
    {m n : Nat} {s₀ s : Shared} {H : Hp} (hn : m < n) (w : W 0 m H) (I : Inv X [] σg H s) (st : tn 0 s.heap) (hf : ∀ b ∈ fp, H b = none) :
      Seg (model X.prog X.w) A (RGx X σg QT) (YGx X σg kp QF) n s₀ (.compStart (.GeneratorExp elt [⟨.Name x px, iter, [], 0⟩] scope pos) 0 (.ref it) .none X.env)
        ((model X.prog X.w).den (.compStart (.GeneratorExp elt [⟨.Name x px, iter, [], 0⟩] scope pos) 0 (.ref it) .none X.env)) [] s := by
  have loop := seg_gx (iter := iter) (scope := scope) (pos := pos) o T pe gw m n 0 s₀ s H hn w I st hf
  show Seg _ A _ _ _ s₀ _ ((compStart (.GeneratorExp elt [⟨.Name x px, iter, [], 0⟩] scope pos) 0 (.ref it) .none X.env).onRaise (leaving X.env)) [] s
  unfold compStart
  rw [Sem.onRaise_eq_wrap]
  show Seg _ A _ _ _ s₀ _ ((ask >>= _).wrap _ _ _ _) [] s
  refine seg_bind_wrap (wpAny_askSetting ?_)
  split
  · exact seg_again rfl loop
  · first
      | exact seg_bind_wrap (wpAny_rule (seg_bind_wrap (wpAny_standAt (seg_bind_wrap (T.self _ 0 s _ _ st (seg_again rfl loop))))))
      | (refine seg_bind_wrap (wpAny_rule ?_); show Seg _ A _ _ _ s₀ _ ((standAt iter.pos >>= _).wrap _ _ _ _) [] s; exact seg_bind_wrap (wpAny_standAt (seg_bind_wrap (T.self _ 0 s _ _ st (seg_again rfl loop)))))
/-- the consumers -/
theorem all_gx {a : Addr} {g : Nat} {R : Result → Shared → Prop} {A : Around} (hh : A.handled = none) (hroom : A.depth < recursionLimit) (hgen : ∀ H' s', Inv X [] σg H' s' → s'.heap.IsGen a g)
    (hT : ∀ s' H', Inv X [] σg H' s' → QT H' → R (.ok (.ret (.bool true))) s') (hF : ∀ s' H', Inv X [] σg H' s' → QF H' → R (.ok (.ret (.bool false))) s') :
    ∀ (n : Nat) (s : Shared) (H : Hp) (gs : GenState), Inv X [] σg H s → s.gens[g]? = some gs → gs.Goes (model X.prog X.w) A.in1.in1 (RGx X σg QT) (YGx X σg true QF) n (.send .none) (s.setGen g .running) →
      codeAny (model X.prog X.w) A (.builtin "all.loop" ⟨[.ref a], []⟩) R s := by
  intro n
  induction n with
  | zero =>
    intro s H gs I hgs hgo
    refine codeAny_builtin F.entry_all_loop ?_
    rw [Around.under_plainId F.plain_all_loop _]
    show wpAny _ A.in1 (pyNext (.ref a) >>= _) _ _ s
    refine wpAny_bind (wpAny_gsz (Nat.le_refl s.gens.size) (wpAny_pyNext_genexpQ (A := A.in1) (P := PGx X σg QT) hh I.nolimit hroom (hgen H s I) hgs hgo (fun v s₁ gs' hb hv hsz => ?_) fun s₁ hp h' hk hsz => ?_))
    · obtain ⟨b, H', rfl, I1, hk⟩ := hv
      have I2 : Inv X [] σg H' (s₁.setGen g gs') := inv_gens I1 rfl rfl (allBare_set I1.bare hb)
      refine wpAny_bind (wpAny_holding (wpAny_truthy_bool ?_))
      refine wpAny_bind (wpAny_letGo ?_)
      cases b with
      | true =>
        rw [if_pos rfl] at hk
        exact (hk s₁ rfl rfl I1.bare).elim
      | false =>
        rw [if_neg Bool.false_ne_true] at hk
        simp only [Bool.false_eq_true, if_false]
        exact wpAny_bind (wpAny_rule (wpAny_pure (hF _ _ I2 hk)))
    · obtain ⟨H', I1, q⟩ := hp
      have I2 : Inv X [] σg H' { s₁.setGen g .finished with heap := h' } := (inv_gens (s' := s₁.setGen g .finished) I1 rfl rfl (allBare_set I1.bare rfl)).kept (t' := (s₁.setGen g .finished).toks) fun b ob e => hk b ob e
      exact wpAny_bind (wpAny_rule (wpAny_pure (hT _ _ I2 q)))
  | succ n ih =>
    intro s H gs I hgs hgo
    refine codeAny_builtin F.entry_all_loop ?_
    rw [Around.under_plainId F.plain_all_loop _]
    show wpAny _ A.in1 (pyNext (.ref a) >>= _) _ _ s
    refine wpAny_bind (wpAny_gsz (Nat.le_refl s.gens.size) (wpAny_pyNext_genexpQ (A := A.in1) (P := PGx X σg QT) hh I.nolimit hroom (hgen H s I) hgs hgo (fun v s₁ gs' hb hv hsz => ?_) fun s₁ hp h' hk hsz => ?_))
    · obtain ⟨b, H', rfl, I1, hk⟩ := hv
      have I2 : Inv X [] σg H' (s₁.setGen g gs') := inv_gens I1 rfl rfl (allBare_set I1.bare hb)
      refine wpAny_bind (wpAny_holding (wpAny_truthy_bool ?_))
      refine wpAny_bind (wpAny_letGo ?_)
      cases b with
      | true =>
        rw [if_pos rfl] at hk
        simp only [if_true]
        have hg1 : g < s₁.gens.size := by
          have h1 : g < s.gens.size := (Array.getElem?_eq_some_iff.mp hgs).1
          rw [setGen_size] at hsz
          omega
        have e2 : (s₁.setGen g gs').gens[g]? = some gs' := setGen_self (gs := s₁.gens[g]) (Array.getElem?_eq_getElem hg1)
        refine wpAny_pure ⟨plainId_quiet F.plain_all_loop _, ih _ H' gs' I2 e2 (hk _ rfl rfl (allBare_set (allBare_set I1.bare hb) rfl))⟩
      | false =>
        rw [if_neg Bool.false_ne_true] at hk
        simp only [Bool.false_eq_true, if_false]
        exact wpAny_bind (wpAny_rule (wpAny_pure (hF _ _ I2 hk)))
    · obtain ⟨H', I1, q⟩ := hp
      have I2 : Inv X [] σg H' { s₁.setGen g .finished with heap := h' } := (inv_gens (s' := s₁.setGen g .finished) I1 rfl rfl (allBare_set I1.bare rfl)).kept (t' := (s₁.setGen g .finished).toks) fun b ob e => hk b ob e
      exact wpAny_bind (wpAny_rule (wpAny_pure (hT _ _ I2 q)))
end
end Lk

namespace Lk
open PySem PySem.Spec PyProof.Rows L2 Evl GenW NdefX
/-- all(test for x in e), any(..): kp is where it goes on -/
def tAllX (P : Addr) (wi : TI) (te : TE) (cs : List Nat) (kp : Bool) : TE := fun σ H Q => wi σ H fun J H1 => H1 P = some (TabO P) ∧ ∃ W, (∃ m, W 0 m H1) ∧ GenOk J te (gS σ cs) kp (Q (.bl kp)) (Q (.bl (!kp))) W
/-- the element, in the generator's frame -/
abbrev EltX (X : Cx) (scope : Scope) (x : Str) (cs : List Nat) (k : Nat) (elt : Expr) (te : TE) : Prop :=
  ∀ (s4 : Shared) (H1 : Hp) (C : Addr) (cl : List (Str × Addr)) (cd : Value) (A' : Around) (fp : List Addr) (pn : List (Addr × Obj)), Room k A' → PE (gx X s4 H1 (genEnv scope cl C cd builtinsNs X.env) A' (gN X.N x cs) fp pn) elt te
section
variable {X : Cx} {pins : List (Addr × Obj)} {σ : L2.St} {H : Hp} {s : Shared}
/-- the generator is made: what holds then -/
structure MadeX (X : Cx) (pins : List (Addr × Obj)) (σ : L2.St) (σg : L2.St) (H1 : Hp) (kp : Bool) (QT QF : Hp → Prop) (a : Addr) (s5 : Shared) : Prop where
  go : ∃ (Xg : Cx) (g n : Nat) (gs : GenState), Xg.prog = X.prog ∧ Xg.w = X.w ∧ (∀ H' s', Inv Xg [] σg H' s' → s'.heap.IsGen a g ∧ Inv X pins σ H' s') ∧ Inv Xg [] σg H1 s5 ∧ s5.gens[g]? = some gs ∧
    gs.Goes (model X.prog X.w) X.A.in1.in1 (RGx Xg σg QT) (YGx Xg σg kp QF) n (.send .none) (s5.setGen g .running)
theorem make_gx {c P : Addr} {elt iter : Expr} {x : Str} {px gpos : Pos} {scope : Scope} {wi : TI} {te : TE} {k : Nat} {cs : List Nat} {kp : Bool} {Q : VK} {Q' : Value → Shared → Prop} (hr : Room (k + 1) X.A) (TB : GxR.TabB X.base X.mg c P) (hcode : X.env.code = .ref c) (S : GxR.GenS X.env scope x)
    (hcs : CapOk X scope cs) (hnd : (gN X.N x cs).Nodup) (hi : PI X (.Name x px) iter wi) (he : EltX X scope x cs k elt te) (hs : ∀ v, genFold iter X.env v = pure v) (I : Inv X pins σ H s) (h : tAllX P wi te cs kp σ H Q)
    (hQ : ∀ H1 a s5, MadeX X pins σ (gS σ cs) H1 kp (Q (.bl kp)) (Q (.bl (!kp))) a s5 → Q' (.ref a) s5) :
    wpAny (model X.prog X.w) X.A (eval (.GeneratorExp elt [⟨.Name x px, iter, [], 0⟩] scope gpos) X.env) Q' X.xe s := by
  refine wpAny_GeneratorExp_make S.co (closure_ok S.free) S.cell S.dot S.kind (by have := hr.dp; omega) ?_ hs
  refine thn (hi.run pins s σ H _ I h) fun xv s0 hx => thn hx fun itv s1 h2 => ?_
  obtain ⟨it, fp, tn, J, H1, e, I1, T, st1, f1, hP, W, ⟨m0, w0⟩, gw⟩ := h2
  subst e
  obtain ⟨⟨ps, hPs, ht⟩, _, _⟩ := I1.hok P _ hP
  refine ⟨I1.nolimit, ?_⟩
  have cd : PySem.W.CodeHd s1.heap c P := TB.code.keeps fun b u e => I1.bk b u e
  have cont : ∀ (code : Value) (h3 : Heap) (tk : Nat) (ps' : Array Value), Heap.ExtBut P s1.heap h3 → s1.heap.objs.size ≤ h3.objs.size → h3.get? P = some { cls := .none, data := .fields ps' } → TriplesOk ps'.toList →
      wpAny (model X.prog X.w) X.A (builtinsFor X.env.globals X.env.builtins) (fun bi s₄ => ∀ h', h'.Ns s₄.heap.objs.size (fun y => if y = ".0" then some (.ref it) else none) → Heap.SameBut s₄.heap.objs.size (s₄.heap.push { cls := .type "frame", data := .dict #[] }) h' →
          Q' (.ref h'.objs.size) { s₄ with
            gens := s₄.gens.push (.fresh (.compStart (.GeneratorExp elt [⟨.Name x px, iter, [], 0⟩] scope gpos) 0 (.ref it) .none (genEnv scope (cloFrom X.env.cells scope.names []) s₄.heap.objs.size code bi X.env))),
            toks := s₄.toks + 1 + 1 + 1,
            heap := h'.push { cls := .type "generator", data := .fields #[.int s₄.gens.size 0, .str "<genexpr>" (s₄.toks + 1), .str (X.env.qual ++ "<genexpr>") (s₄.toks + 1 + 1)] } }) X.xe { s1 with heap := h3, toks := tk } := by
    intro code h3 tk ps' hx hsz hP3 ht3
    obtain ⟨bm, ob, e1, e2, e3, e4, e5, e6, e7, e8⟩ := TB.bm
    have keep3 : ∀ b u, b ≠ P → s1.heap.get? b = some u → h3.get? b = some u := fun b u hb e => hx b u hb e
    refine wpAny_builtinsFor (m := X.mg) (by rw [I1.ok.glob]; exact (I1.mod.glob.keeps I1.bk).extBut hx TB.gP) e1 e2 (keep3 _ _ e4 (I1.bk _ _ e5)) e6 e7 e8 ?_
    have I4 : Inv X pins σ H1 { s1 with heap := h3, gens := s1.gens, drawn := s1.drawn, toks := tk } := inv_tabO I1 hP keep3 hP3 ht3 I1.bare
    generalize hs4 : ({ s1 with heap := h3, toks := tk } : Shared) = s4
    have I4 : Inv X pins σ H1 s4 := by rw [← hs4]; exact I4
    have h4 : s4.heap = h3 := by rw [← hs4]
    intro h' hn' hsb
    have hsz' : h'.objs.size = s4.heap.objs.size + 1 := by rw [hsb.1, Heap.size_push]
    have keep' : ∀ b o, s4.heap.get? b = some o → h'.get? b = some o := fun b o e => hsb.extBut b o (Nat.ne_of_lt (Heap.lt_size e)) (Heap.get?_push_of_some _ e)
    generalize hgo : ({ cls := .type "generator", data := .fields #[.int s4.gens.size 0, .str "<genexpr>" (s4.toks + 1), .str (X.env.qual ++ "<genexpr>") (s4.toks + 1 + 1)] } : Obj) = go
    have hgp : (h'.push go).get? h'.objs.size = some go := by rw [← hgo]; exact Heap.get?_push_size _ rfl
    generalize hce : genEnv scope (cloFrom X.env.cells scope.names []) s4.heap.objs.size code builtinsNs X.env = cenv
    generalize hs5 : ({ s4 with gens := s4.gens.push (.fresh (.compStart (.GeneratorExp elt [⟨.Name x px, iter, [], 0⟩] scope gpos) 0 (.ref it) .none cenv)), toks := s4.toks + 1 + 1 + 1, heap := h'.push go } : Shared) = s5
    have h5 : s5.heap = h'.push go := by rw [← hs5]
    have kp5 : ∀ b o, s4.heap.get? b = some o → s5.heap.get? b = some o := fun b o e => by rw [h5]; exact Heap.get?_push_of_some _ (keep' b o e)
    have sz : ∀ b ∈ fp, b < s4.heap.objs.size := fun b hb => by
      obtain ⟨o, e, _⟩ := T.obj _ _ st1 b hb
      rw [h4]
      exact Nat.lt_of_lt_of_le (Heap.lt_size e) hsz
    have bare5 : AllBare s5.gens := by rw [← hs5]; exact AllBare.push I4.bare rfl
    have os5 : s5.os = s4.os := by rw [← hs5]
    have hrr : Room k (X.A.in1.in1.deeper cenv) := ⟨hr.hd, by have := hr.dp; show X.A.depth + 1 + 3 * k + 5 < _; omega, by have := hr.un; show X.A.units + 1 + 1 + 3 + 16 * k + 200 < _; omega⟩
    have IG : Inv (gx X s4 H1 cenv (X.A.in1.in1.deeper cenv) (gN X.N x cs) fp [(h'.objs.size, go)]) [] (gS σ cs) H1 s5 := by
      refine inv_gx (m0 := fun y => if y = ".0" then some (.ref it) else none) I4 S hcs f1 sz (by rw [← hce]; rfl) (by rw [← hce]; rfl) (by rw [← hce]; rfl) (by rw [← hce]; rfl) (by rw [← hce]; rfl) (by rw [← hce]; rfl) hr.hd (Around.frames_deeper I4.ok.frames) os5 bare5 kp5 ?_ (by rw [h5]; exact hgp) (by rw [hsz']; exact Nat.lt_succ_self _) (fun v z => by rw [← hgo] at z; cases z)
      rw [h5, ← hce]
      exact hn'.push _
    have pe := he s4 H1 s4.heap.objs.size (cloFrom X.env.cells scope.names []) code (X.A.in1.in1.deeper cenv) fp [(h'.objs.size, go)] hrr
    rw [hce] at pe
    have gok : GxOk (gx X s4 H1 cenv (X.A.in1.in1.deeper cenv) (gN X.N x cs) fp [(h'.objs.size, go)]) X.A.in1.in1 x fp (gS σ cs) :=
      ⟨rfl, rfl, rfl, fun _ _ z => z, by rw [← hce]; exact S.co, hnd, rfl, by rw [← hce]; exact S.loc, rfl, fun p hp z => by
        have hp : p ∈ [(h'.objs.size, go)] := hp
        rw [List.mem_singleton.mp hp] at z
        have : h'.objs.size < s4.heap.objs.size := sz _ z
        omega⟩
    have st5 : tn 0 s5.heap := T.keep _ _ _ st1 fun b hb o e => kp5 b o (by
      rw [h4]
      exact keep3 b o (fun z => by rw [z] at hb; have := (f1 P hb).1; rw [hP] at this; cases this) e)
    have hf5 : ∀ b ∈ fp, H1 b = none := fun b hb => (f1 b hb).1
    refine hQ H1 h'.objs.size s5 ⟨gx X s4 H1 cenv (X.A.in1.in1.deeper cenv) (gN X.N x cs) fp [(h'.objs.size, go)], s4.gens.size, m0 + 1, .fresh (.compStart (.GeneratorExp elt [⟨.Name x px, iter, [], 0⟩] scope gpos) 0 (.ref it) .none cenv), rfl, rfl, fun H' s' I' => ⟨?_, ?_⟩, IG, by rw [← hs5]; exact Array.getElem?_push_size .., rfl, ?_⟩
    · have e := (I'.pin (h'.objs.size, go) (List.mem_append_left _ (List.mem_singleton.mpr rfl))).1
      exact ⟨go, .str "<genexpr>" (s4.toks + 1), .str (X.env.qual ++ "<genexpr>") (s4.toks + 1 + 1), e, by rw [← hgo], by rw [← hgo], by rw [← hgo]⟩
    · exact I4.call' (ch := fp) I'.os I'.base I'.hok I'.bare fun b hb => ⟨(f1 b hb).2.2.2.1, (f1 b hb).2.1, (f1 b hb).2.2.2.2.1, (f1 b hb).2.2.2.2.2⟩
    · exact seg_gxS gok T pe gw (Nat.lt_succ_self m0) w0 (inv_gens (s' := s5.setGen s4.gens.size .running) IG rfl rfl (allBare_set bare5 rfl)) st5 hf5
  cases hf : codeAmong gpos ps.toList with
  | none =>
    refine wpAny_genexprCodeX hcode (cd.code hPs ht) (cd.tab hPs) hf fun c' h' tk hx hge hlt hco' _ htab' _ => ?_
    obtain ⟨o1, vs, f1, tf, fl, tg, inF, tx, tt, op, _, _, _, _, _, _, _, _, _, htr, _⟩ := hco'
    exact cont _ h' tk _ hx (Nat.le_trans hge (Nat.le_of_lt hlt)) htab'.2 htr
  | some cv =>
    refine wpAny_genexprCode_hit hcode (cd.code hPs ht) hf ?_
    exact cont cv s1.heap s1.toks ps (Heap.ExtBut.refl _ _) (Nat.le_refl _) hPs ht
theorem pe_allX {c P : Addr} {elt iter : Expr} {x : Str} {px p pos gpos : Pos} {scope : Scope} {wi : TI} {te : TE} {k : Nat} {cs : List Nat} (TB : GxR.TabB X.base X.mg c P) (hr : Room (k + 1) X.A) (hg : Gl X "all") (hm : X.mg "all" = none) (hcode : X.env.code = .ref c) (S : GxR.GenS X.env scope x)
    (hcs : CapOk X scope cs) (hnd : (gN X.N x cs).Nodup) (hi : PI X (.Name x px) iter wi) (hel : EltX X scope x cs k elt te) (hs : ∀ v, genFold iter X.env v = pure v)
    (he : starEach [.GeneratorExp elt [⟨.Name x px, iter, [], 0⟩] scope gpos] X.env = (false, eval (.GeneratorExp elt [⟨.Name x px, iter, [], 0⟩] scope gpos) X.env) :: starEach [] X.env := by rfl) :
    PE X (.Call (.Name "all" p) [.GeneratorExp elt [⟨.Name x px, iter, [], 0⟩] scope gpos] [] pos) (tAllX P wi te cs true) := by
  refine ⟨fun pins s σ H Q I h => ?_⟩
  refine wpAny_Call_Name_kw (ld_blt I hg hm (show bootBuiltins "all" = some (.builtin "all") by first | decide +kernel | kernel_rfl) ?_)
  refine PyProof.Rows.callWith_builtin1 ?_ he (by rfl)
  rw [he]
  show wpAny _ _ (spliced ((false, eval (.GeneratorExp elt [⟨.Name x px, iter, [], 0⟩] scope gpos) X.env) :: backTo pos (starEach [] X.env))) _ _ s
  refine Calls.spliced_cons (make_gx hr TB hcode S hcs hnd hi hel hs I h fun H1 a s5 hG => ?_)
  obtain ⟨Xg, g, n, gs, eP, ew, hb, IG, hgs, hgo⟩ := hG.go
  refine Calls.spliced_nil ?_
  refine call_function_tree F.kind_all F.plain_all F.entry_all (F.args_all1 _) ?_
  unfold Builtin.«all»
  refine wpAny_bind (m := oneArg "all" _) (wpAny_pure ?_)
  refine wpAny_bind (wpAny_pyIter_gen (hb _ _ IG).1 ?_)
  rw [← eP, ← ew] at hgo ⊢
  refine wpAny_pure ⟨plainId_quiet F.plain_all_loop _, all_gx (QT := Q (.bl true)) (QF := Q (.bl false)) hr.hd (by have := hr.dp; omega) (fun H' s' I' => (hb _ _ I').1) (fun s' H' I' q => ?_) (fun s' H' I' q => ?_) n s5 H1 gs IG hgs hgo⟩
  · exact ⟨.bl true, H', (hb _ _ I').2, rfl, q⟩
  · exact ⟨.bl false, H', (hb _ _ I').2, rfl, q⟩
end
end Lk

/-! Fx: values as trees, what a frame owns; the readings of expressions and statements over these -/
namespace Fx
open PySem PySem.Spec PyProof.Rows L2 Evl Lk

/-- a built-in class; a class of the program; an exception that was caught: its class, the number that it bears -/
inductive Tk where
  | bt (n : String) | cls (C : Addr) | exc (C : Addr) (row : Option Int)
instance : Coe String Tk := ⟨.bt⟩
/-- a value that is not changed any more, as a tree -/
inductive D where
  | non | bl (b : Bool) | int (i : Int) | str (x : Str) | ty (n : Tk)
  | lst (ds : List D) | tup (ds : List D) | dic (ks : List Key) (ds : List D)
/-- a thing that is owned: a list, a dict, an instance; or a value -/
inductive O where
  | f (d : D) | lst (ds : List D) | dic (ks : List Key) (os : List O) | ins (C : Addr) (ns : List Str) (os : List O)
/-- a slot -/
inductive Sl where
  | f (d : D) | own (o : O) | vw (o : O)
abbrev Env := List (Option Sl)
/-- an exception in the air: its class, the number that it bears -/
structure Xv where
  C : Addr
  row : Option Int
/-- a def's run: what is known of the top, the tables, the state at its entry, the slots that keep their things -/
structure Gx where
  K : PySem.W.Frag
  tabs : List Addr
  T0 : Addr → Prop
  H0 : Hp
  P0 : Addr → Prop
  σ0 : L2.St
  prot : Nat → Bool
  /-- what is wanted of an exception, of the frame behind it; what stands and is kept till then -/
  xw : Xv → Env → Prop
  hx : Hp

/-- an exception that was caught, as an object -/
def ExT (a C : Addr) (d : Option Addr) : HO := .ext fun h => ∃ (oe : Obj) (vs : Array Value), h.get? a = some oe ∧ oe.cls = .ref C ∧ oe.dict = d ∧ oe.data = .fields vs
/-- what it bears -/
def RowR (H : Hp) (d : Option Addr) : Option Int → Prop
  | none => d = none
  | some r => ∃ dd, d = some dd ∧ H dd = some (.xd [("row", .int r)])
mutual
inductive Fz (K : PySem.W.Frag) (H : Hp) : V → D → Prop
  | non : Fz K H .non .non
  | bl (b : Bool) : Fz K H (.bl b) (.bl b)
  | int (i : Int) : Fz K H (.int i) (.int i)
  | str (x : Str) : Fz K H (.str x) (.str x)
  | ty (n : String) : Fz K H (.ty n) (.ty n)
  | cls (C : Addr) : Fz K H (.ref C) (.ty (.cls C))
  | exc {a C : Addr} {d : Option Addr} {row : Option Int} : H a = some (ExT a C d) → RowR H d row → Fz K H (.ref a) (.ty (.exc C row))
  | lst {a : Addr} {vs : List V} {ds : List D} : SqL K H a vs → FzL K H vs ds → Fz K H (.ref a) (.lst ds)
  | tup {a : Addr} {vs : List V} {ds : List D} : SqT K H a vs → FzL K H vs ds → Fz K H (.ref a) (.tup ds)
  | dic {a : Addr} {ks : List Key} {vs : List V} {ds : List D} : Rd H a (.dK (ks.zip vs)) → ks.length = vs.length → FzL K H vs ds → Fz K H (.ref a) (.dic ks ds)
inductive FzL (K : PySem.W.Frag) (H : Hp) : List V → List D → Prop
  | nil : FzL K H [] []
  | cons {v : V} {vs : List V} {d : D} {ds : List D} : Fz K H v d → FzL K H vs ds → FzL K H (v :: vs) (d :: ds)
end
theorem RowR.ex {H H' : Hp} {d : Option Addr} (e : Ex H H') : ∀ {r : Option Int}, RowR H d r → RowR H' d r
  | none, h => h
  | some _, ⟨dd, h1, h2⟩ => ⟨dd, h1, e _ _ h2⟩
section
variable {K : PySem.W.Frag} {H H' : Hp}
mutual
theorem Fz.ex (e : Ex H H') : ∀ {d : D} {v : V}, Fz K H v d → Fz K H' v d
  | .non, _, h => by cases h; exact .non
  | .bl b, _, h => by cases h; exact .bl b
  | .int i, _, h => by cases h; exact .int i
  | .str x, _, h => by cases h; exact .str x
  | .ty (.bt n), _, h => by cases h; exact .ty n
  | .ty (.cls C), _, h => by cases h; exact .cls C
  | .ty (.exc C r), _, h => by cases h with | exc a b => exact .exc (e _ _ a) (b.ex e)
  | .lst ds, _, h => by cases h with | lst a b => exact .lst (ex_l e a) (FzL.ex e b)
  | .tup ds, _, h => by cases h with | tup a b => exact .tup (ex_t e a) (FzL.ex e b)
  | .dic ks ds, _, h => by cases h with | dic a l b => exact .dic (ex_rd e a) l (FzL.ex e b)
theorem FzL.ex (e : Ex H H') : ∀ {ds : List D} {vs : List V}, FzL K H vs ds → FzL K H' vs ds
  | [], _, h => by cases h; exact .nil
  | d :: ds, _, h => by cases h with | cons a b => exact .cons (Fz.ex e a) (FzL.ex e b)
end
theorem FzL.length {vs : List V} {ds : List D} (h : FzL K H vs ds) : vs.length = ds.length := by
  induction ds generalizing vs with
  | nil => cases h; rfl
  | cons d ds ih => cases h with | cons a b => simp only [List.length_cons, ih b]
theorem FzL.get {vs : List V} {ds : List D} (h : FzL K H vs ds) {i : Nat} {v : V} {d : D} (hv : vs[i]? = some v) (hd : ds[i]? = some d) : Fz K H v d := by
  induction ds generalizing vs i with
  | nil => cases hd
  | cons e ds ih => cases h with
    | cons a b => cases i with
      | zero => cases hv; cases hd; exact a
      | succ i => exact ih b (by simpa using hv) (by simpa using hd)
theorem FzL.append {vs ws : List V} {ds es : List D} (h : FzL K H vs ds) (g : FzL K H ws es) : FzL K H (vs ++ ws) (ds ++ es) := by
  induction ds generalizing vs with
  | nil => cases h; exact g
  | cons d ds ih => cases h with | cons a b => exact .cons a (ih b)
theorem FzL.take {vs : List V} {ds : List D} (n : Nat) (h : FzL K H vs ds) : FzL K H (vs.take n) (ds.take n) := by
  induction ds generalizing vs n with
  | nil => cases h; simp; exact .nil
  | cons d ds ih => cases h with
    | cons a b => cases n with
      | zero => exact .nil
      | succ n => exact .cons a (ih n b)
theorem FzL.drop {vs : List V} {ds : List D} (n : Nat) (h : FzL K H vs ds) : FzL K H (vs.drop n) (ds.drop n) := by
  induction ds generalizing vs n with
  | nil => cases h; simp; exact .nil
  | cons d ds ih => cases h with
    | cons a b => cases n with
      | zero => exact .cons a b
      | succ n => exact ih n b
theorem FzL.set {vs : List V} {ds : List D} {v : V} {d : D} (h : FzL K H vs ds) (r : Fz K H v d) (i : Nat) : FzL K H (vs.set i v) (ds.set i d) := by
  induction ds generalizing vs i with
  | nil => cases h; exact .nil
  | cons e ds ih => cases h with
    | cons a b => cases i with
      | zero => exact .cons r b
      | succ i => exact .cons a (ih b i)
end

open Classical in
/-- the heap without what is owned -/
noncomputable def hid (T : Addr → Prop) (H : Hp) : Hp := fun a => if T a then none else H a
section
variable {T T' : Addr → Prop} {H H' : Hp} {a : Addr} {o : HO}
theorem hid_of (h : H a = some o) (n : ¬ T a) : hid T H a = some o := by unfold hid; rw [if_neg n]; exact h
theorem hid_some (h : hid T H a = some o) : H a = some o ∧ ¬ T a := by
  unfold hid at h
  by_cases n : T a
  · rw [if_pos n] at h; cases h
  · rw [if_neg n] at h; exact ⟨h, n⟩
theorem hid_ex : Ex (hid T H) H := fun _ _ h => (hid_some h).1
end

/-- what changed: P alone; T' is what is owned then -/
structure Chg (T : Addr → Prop) (H : Hp) (P : Addr → Prop) (T' : Addr → Prop) (H' : Hp) : Prop where
  keep : ∀ a o, H a = some o → ¬ P a → H' a = some o
  tk : ∀ a, T a → ¬ P a → T' a
  tf : ∀ a, T' a → T a ∨ H a = none
  tr : ∀ a, T' a → H' a ≠ none
  dom : ∀ a, H a ≠ none → H' a ≠ none
def Sub (T P : Addr → Prop) : Prop := ∀ a, P a → T a
abbrev Trk (T : Addr → Prop) (H : Hp) : Prop := ∀ a, T a → H a ≠ none
section
variable {T T1 T2 P P1 P2 : Addr → Prop} {H H1 H2 : Hp}
theorem Chg.refl (t : Trk T H) : Chg T H P T H := ⟨fun _ _ h _ => h, fun _ h _ => h, fun _ h => .inl h, t, fun _ h => h⟩
theorem Chg.trans (t : Trk T H) (a : Chg T H P T1 H1) (b : Chg T1 H1 P1 T2 H2) (s : ∀ a, P1 a → P a ∨ H a = none) : Chg T H P T2 H2 where
  keep := fun x o h n => b.keep x o (a.keep x o h n) fun z => by
    rcases s x z with z | z
    · exact n z
    · rw [z] at h; cases h
  tk := fun x h n => b.tk x (a.tk x h n) fun z => by
    rcases s x z with z | z
    · exact n z
    · exact t x h z
  tf := fun x h => by
    rcases b.tf x h with z | z
    · exact a.tf x z
    · refine .inr ?_
      cases e : H x with
      | none => rfl
      | some o => exact absurd z (a.dom x (by rw [e]; exact nofun))
  tr := b.tr
  dom := fun x h => b.dom x (a.dom x h)
theorem Chg.hid (c : Chg T H P T1 H1) (s : Sub T P) : Ex (hid T H) (hid T1 H1) := fun a o h => by
  obtain ⟨h1, h2⟩ := hid_some h
  refine hid_of (c.keep a o h1 fun z => h2 (s a z)) fun z => ?_
  rcases c.tf a z with z | z
  · exact h2 z
  · rw [z] at h1; cases h1
theorem Chg.ex (c : Chg T H (fun _ => False) T1 H1) : Ex H H1 := fun a o h => c.keep a o h (fun z => z)
theorem Chg.weak (c : Chg T H P T1 H1) (s : ∀ a, P a → P1 a) : Chg T H P1 T1 H1 := ⟨fun a o h n => c.keep a o h fun z => n (s a z), fun a h n => c.tk a h fun z => n (s a z), c.tf, c.tr, c.dom⟩
/-- .. that is owned -/
theorem Chg.newOwn {p : Addr} {o : HO} (t : Trk T H) (h : H p = none) : Chg T H P (fun a => T a ∨ a = p) (upd H p o) where
  keep := fun a u e _ => by rw [upd_ne (ne_of_none e h)]; exact e
  tk := fun _ h _ => .inl h
  tf := fun a ha => by
    rcases ha with ha | rfl
    · exact .inl ha
    · exact .inr h
  tr := fun a ha => by
    by_cases e : a = p
    · subst e; rw [upd_same]; exact nofun
    · rw [upd_ne e]
      rcases ha with ha | ha
      · exact t a ha
      · exact absurd ha e
  dom := fun a ha => by
    by_cases e : a = p
    · subst e; rw [upd_same]; exact nofun
    · rw [upd_ne e]; exact ha
/-- an owned thing is written -/
theorem Chg.write {p : Addr} {o : HO} (t : Trk T H) (h : P p) : Chg T H P T (upd H p o) where
  keep := fun a u e n => by rw [upd_ne (fun z => n (by rw [z]; exact h))]; exact e
  tk := fun _ h _ => h
  tf := fun _ h => .inl h
  tr := fun a ha => by
    by_cases e : a = p
    · subst e; rw [upd_same]; exact nofun
    · rw [upd_ne e]; exact t a ha
  dom := fun a ha => by
    by_cases e : a = p
    · subst e; rw [upd_same]; exact nofun
    · rw [upd_ne e]; exact ha
end

/-! ### what is owned -/
mutual
inductive Ow (K : PySem.W.Frag) (T : Addr → Prop) (H : Hp) : O → V → List Addr → Prop
  | f {d : D} {v : V} : Fz K (hid T H) v d → Ow K T H (.f d) v []
  | lst {p : Addr} {vs : List V} {ds : List D} : T p → H p = some (.lst vs) → FzL K (hid T H) vs ds → Ow K T H (.lst ds) (.ref p) [p]
  | dic {p : Addr} {ks : List Key} {vs : List V} {os : List O} {fp : List Addr} : T p → H p = some (.dK (ks.zip vs)) → ks.length = vs.length → OwL K T H os vs fp → p ∉ fp → Ow K T H (.dic ks os) (.ref p) (p :: fp)
  | ins {p C dx : Addr} {ns : List Str} {vs : List V} {os : List O} {fp : List Addr} : T p → H p = some (.ins C dx (ns.zip vs)) → ns.length = vs.length → OwL K T H os vs fp → p ∉ fp → Ow K T H (.ins C ns os) (.ref p) (p :: fp)
inductive OwL (K : PySem.W.Frag) (T : Addr → Prop) (H : Hp) : List O → List V → List Addr → Prop
  | nil : OwL K T H [] [] []
  | cons {o : O} {os : List O} {v : V} {vs : List V} {f1 f2 : List Addr} : Ow K T H o v f1 → OwL K T H os vs f2 → (∀ a ∈ f1, a ∉ f2) → OwL K T H (o :: os) (v :: vs) (f1 ++ f2)
end
section
variable {K : PySem.W.Frag} {T T' : Addr → Prop} {H H' : Hp}
mutual
theorem Ow.step (e : Ex (hid T H) (hid T' H')) : ∀ {o : O} {v : V} {fp : List Addr}, (∀ a ∈ fp, ∀ u, H a = some u → H' a = some u) → (∀ a ∈ fp, T a → T' a) → Ow K T H o v fp → Ow K T' H' o v fp
  | .f d, _, _, _, _, h => by cases h with | f a => exact .f (a.ex e)
  | .lst ds, _, _, k, t, h => by cases h with | lst a b c => exact .lst (t _ (by simp) a) (k _ (by simp) _ b) (c.ex e)
  | .dic ks os, _, _, k, t, h => by cases h with | dic a b l c n => exact .dic (t _ (by simp) a) (k _ (by simp) _ b) l (OwL.step e (fun x hx => k x (List.mem_cons_of_mem _ hx)) (fun x hx => t x (List.mem_cons_of_mem _ hx)) c) n
  | .ins C ns os, _, _, k, t, h => by cases h with | ins a b l c n => exact .ins (t _ (by simp) a) (k _ (by simp) _ b) l (OwL.step e (fun x hx => k x (List.mem_cons_of_mem _ hx)) (fun x hx => t x (List.mem_cons_of_mem _ hx)) c) n
theorem OwL.step (e : Ex (hid T H) (hid T' H')) : ∀ {os : List O} {vs : List V} {fp : List Addr}, (∀ a ∈ fp, ∀ u, H a = some u → H' a = some u) → (∀ a ∈ fp, T a → T' a) → OwL K T H os vs fp → OwL K T' H' os vs fp
  | [], _, _, _, _, h => by cases h; exact .nil
  | o :: os, _, _, k, t, h => by cases h with
    | cons a b d => exact .cons (Ow.step e (fun x hx => k x (List.mem_append_left _ hx)) (fun x hx => t x (List.mem_append_left _ hx)) a) (OwL.step e (fun x hx => k x (List.mem_append_right _ hx)) (fun x hx => t x (List.mem_append_right _ hx)) b) d
end
end
section
variable {K : PySem.W.Frag} {T : Addr → Prop} {H : Hp}
mutual
theorem Ow.sub : ∀ {o : O} {v : V} {fp : List Addr}, Ow K T H o v fp → ∀ a ∈ fp, T a
  | .f d, _, _, h => by cases h with | f a => intro x hx; cases hx
  | .lst ds, _, _, h => by cases h with | lst a b c => intro x hx; rw [List.mem_singleton.mp hx]; exact a
  | .dic ks os, _, _, h => by cases h with
    | dic a b l c n =>
      intro x hx
      rcases List.mem_cons.mp hx with rfl | hx
      · exact a
      · exact OwL.sub c x hx
  | .ins C ns os, _, _, h => by cases h with
    | ins a b l c n =>
      intro x hx
      rcases List.mem_cons.mp hx with rfl | hx
      · exact a
      · exact OwL.sub c x hx
theorem OwL.sub : ∀ {os : List O} {vs : List V} {fp : List Addr}, OwL K T H os vs fp → ∀ a ∈ fp, T a
  | [], _, _, h => by cases h; intro x hx; cases hx
  | o :: os, _, _, h => by cases h with
    | cons a b d =>
      intro x hx
      rcases List.mem_append.mp hx with hx | hx
      · exact Ow.sub a x hx
      · exact OwL.sub b x hx
end
end
def SlR (G : Gx) (T : Addr → Prop) (H : Hp) : Sl → V → List Addr → Prop
  | .f d, v, fp => Fz G.K (hid T H) v d ∧ fp = []
  | .own o, v, fp => Ow G.K T H o v fp
  | .vw o, v, fp => Ow G.K T H o v fp
def IsOwn (env : Env) (i : Nat) : Prop := ∃ o, env[i]? = some (some (.own o))
def IsS (env : Env) (i : Nat) : Prop := ∃ s, env[i]? = some (some s)
/-- what the frame may change -/
def OwnP (env : Env) (F : Nat → List Addr) (a : Addr) : Prop := ∃ i, IsOwn env i ∧ a ∈ F i
structure RE (G : Gx) (T : Addr → Prop) (H : Hp) (σ : L2.St) (env : Env) (F : Nat → List Addr) : Prop where
  trk : Trk T H
  tab : ∀ p ∈ G.tabs, H p = some (TabO p) ∧ ¬ T p
  slot : ∀ i s, env[i]? = some (some s) → ∃ v, σ[i]? = some (some v) ∧ SlR G T H s v (F i)
  dis : ∀ i j, i ≠ j → IsOwn env i → IsS env j → ∀ a ∈ F i, a ∉ F j
  st : Chg G.T0 G.H0 G.P0 T H
  ow : ∀ a, OwnP env F a → G.P0 a ∨ G.H0 a = none
  t0 : Trk G.T0 G.H0
  pin : ∀ i, G.prot i = true → σ[i]? = G.σ0[i]?
  len : env.length = σ.length
  hx : Ex G.hx (hid T H)
section
variable {G : Gx} {T T1 T2 : Addr → Prop} {H H1 H2 : Hp} {σ : L2.St} {env env1 env2 : Env} {F F1 F2 : Nat → List Addr} {s : Sl} {v : V} {fp : List Addr}
theorem SlR.sub (h : SlR G T H s v fp) : ∀ a ∈ fp, T a := by
  cases s with
  | f d => obtain ⟨_, rfl⟩ := h; intro a ha; cases ha
  | own o => exact Ow.sub h
  | vw o => exact Ow.sub h
theorem SlR.step (e : Ex (hid T H) (hid T1 H1)) (k : ∀ a ∈ fp, ∀ u, H a = some u → H1 a = some u) (t : ∀ a ∈ fp, T a → T1 a) (h : SlR G T H s v fp) : SlR G T1 H1 s v fp := by
  cases s with
  | f d => exact ⟨h.1.ex e, h.2⟩
  | own o => exact Ow.step e k t h
  | vw o => exact Ow.step e k t h
theorem RE.sub (r : RE G T H σ env F) : Sub T (OwnP env F) := fun a ⟨i, ⟨o, hi⟩, ha⟩ => by
  obtain ⟨v, _, q⟩ := r.slot i _ hi
  exact SlR.sub q a ha
theorem SlR.chg {P : Addr → Prop} (c : Chg T H P T1 H1) (s0 : Sub T P) (n : ∀ a ∈ fp, ¬ P a) (h : SlR G T H s v fp) : SlR G T1 H1 s v fp :=
  h.step (c.hid s0) (fun a ha u e => c.keep a u e (n a ha)) (fun a ha e => c.tk a e (n a ha))
/-- a change elsewhere -/
theorem RE.chg {P : Addr → Prop} (r : RE G T H σ env F) (c : Chg T H P T1 H1) (s0 : Sub T P) (hp : ∀ a, P a → G.P0 a ∨ G.H0 a = none) (n : ∀ i, IsS env i → ∀ a ∈ F i, ¬ P a) : RE G T1 H1 σ env F where
  trk := c.tr
  tab := fun p hp => by
    obtain ⟨h1, h2⟩ := r.tab p hp
    refine ⟨c.keep p _ h1 fun z => h2 (s0 p z), fun z => ?_⟩
    rcases c.tf p z with z | z
    · exact h2 z
    · rw [h1] at z; cases z
  slot := fun i s hi => by
    obtain ⟨v, h1, h2⟩ := r.slot i s hi
    exact ⟨v, h1, h2.chg c s0 (n i ⟨s, hi⟩)⟩
  dis := r.dis
  st := r.st.trans r.t0 c hp
  ow := r.ow
  t0 := r.t0
  pin := r.pin
  len := r.len
  hx := r.hx.trans (c.hid s0)
end
def upF (F : Nat → List Addr) (i : Nat) (fr : List Addr) (j : Nat) : List Addr := if j = i then fr else F j
theorem upF_same {F : Nat → List Addr} {i : Nat} {fr : List Addr} : upF F i fr i = fr := if_pos rfl
theorem upF_ne {F : Nat → List Addr} {i j : Nat} {fr : List Addr} (h : j ≠ i) : upF F i fr j = F j := if_neg h
/-- from a state of the frame to a later one -/
structure Att (G : Gx) (σ : L2.St) (T0 : Addr → Prop) (H0 : Hp) (env0 : Env) (F0 : Nat → List Addr) (T : Addr → Prop) (H : Hp) (env : Env) (F : Nat → List Addr) : Prop where
  chg : Chg T0 H0 (OwnP env0 F0) T H
  re : RE G T H σ env F
  own : ∀ a, OwnP env F a → OwnP env0 F0 a ∨ H0 a = none
  vw : ∀ i o, env[i]? = some (some (.vw o)) → env0[i]? = some (some (.vw o)) ∧ F i = F0 i
section
variable {G : Gx} {T T1 T2 : Addr → Prop} {H H1 H2 : Hp} {σ : L2.St} {env env1 env2 : Env} {F F1 F2 : Nat → List Addr} {s : Sl} {v : V} {fp : List Addr}
theorem Att.refl (r : RE G T H σ env F) : Att G σ T H env F T H env F := ⟨.refl r.trk, r, fun _ h => .inl h, fun _ _ h => ⟨h, rfl⟩⟩
theorem Att.trans (t : Trk T H) (a : Att G σ T H env F T1 H1 env1 F1) (b : Att G σ T1 H1 env1 F1 T2 H2 env2 F2) : Att G σ T H env F T2 H2 env2 F2 := by
  refine ⟨a.chg.trans t b.chg a.own, b.re, fun x hx => ?_, fun i o h => by
    obtain ⟨h1, e1⟩ := b.vw i o h
    obtain ⟨h2, e2⟩ := a.vw i o h1
    exact ⟨h2, e1.trans e2⟩⟩
  rcases b.own x hx with z | z
  · exact a.own x z
  · refine .inr ?_
    cases e : H x with
    | none => rfl
    | some o => exact absurd z (a.chg.dom x (by rw [e]; exact nofun))
end
end Fx

namespace Fx
open PySem PySem.Spec PyProof.Rows L2 Evl Lk

/-- a value whose own list or dict may be owned, its items are not -/
def Cz (K : PySem.W.Frag) (T : Addr → Prop) (H : Hp) (v : V) : D → Prop
  | .lst ds => ∃ a vs, v = .ref a ∧ SqL K H a vs ∧ FzL K (hid T H) vs ds
  | .dic ks ds => ∃ a vs, v = .ref a ∧ Rd H a (.dK (ks.zip vs)) ∧ ks.length = vs.length ∧ FzL K (hid T H) vs ds
  | d => Fz K (hid T H) v d
def O.fds : List O → Option (List D)
  | [] => some []
  | .f d :: os => (O.fds os).map (d :: ·)
  | _ :: _ => none
def O.cd : O → Option D
  | .f d => some d
  | .lst ds => some (.lst ds)
  | .dic ks os => (O.fds os).map (.dic ks)
  | .ins _ _ _ => none
def Sl.cd : Sl → Option D
  | .f d => some d
  | .own o => o.cd
  | .vw o => o.cd
section
variable {K : PySem.W.Frag} {T : Addr → Prop} {H H' : Hp} {v : V} {d : D}
theorem Cz.of (h : Fz K (hid T H) v d) : Cz K T H v d := by
  cases h with
  | lst a b => exact ⟨_, _, rfl, ex_l hid_ex a, b⟩
  | dic a l b => exact ⟨_, _, rfl, ex_rd hid_ex a, l, b⟩
  | non => exact .non
  | bl b => exact .bl b
  | int i => exact .int i
  | str x => exact .str x
  | ty n => exact .ty n
  | cls C => exact .cls C
  | exc a b => exact .exc a b
  | tup a b => exact .tup a b
theorem OwL.fds : ∀ {os : List O} {vs : List V} {fp : List Addr} {ds : List D}, OwL K T H os vs fp → O.fds os = some ds → FzL K (hid T H) vs ds
  | [], _, _, _, h, e => by
    cases h
    cases e
    exact .nil
  | o :: os, _, _, _, h, e => by
    cases h with
    | cons a b _ =>
      cases o with
      | f d =>
        cases a with
        | f a =>
          cases e2 : O.fds os with
          | none => unfold O.fds at e; rw [e2] at e; cases e
          | some es =>
            unfold O.fds at e
            rw [e2] at e
            cases e
            exact .cons a (OwL.fds b e2)
      | _ => cases e
theorem Ow.cz {o : O} {fp : List Addr} (h : Ow K T H o v fp) (e : o.cd = some d) : Cz K T H v d := by
  cases h with
  | f a => cases e; exact .of a
  | lst a b c => cases e; exact ⟨_, _, rfl, SqL.of b, c⟩
  | dic a b l c n =>
    rename_i os _
    have e : (O.fds os).map (D.dic _) = some d := e
    cases e2 : O.fds os with
    | none => rw [e2] at e; cases e
    | some es =>
      rw [e2] at e
      cases e
      exact ⟨_, _, rfl, .inl b, l, c.fds e2⟩
  | ins => cases e
theorem SlR.cz {G : Gx} {s : Sl} {fp : List Addr} (h : SlR G T H s v fp) (e : s.cd = some d) : Cz G.K T H v d := by
  cases s with
  | f d => cases e; exact .of h.1
  | own o => exact Ow.cz h e
  | vw o => exact Ow.cz h e
theorem Cz.fz (h : Cz K T H v d) : Fz K H v d := by
  cases d with
  | lst ds => obtain ⟨a, vs, rfl, b, c⟩ := h; exact .lst b (c.ex hid_ex)
  | dic ks ds => obtain ⟨a, vs, rfl, b, l, c⟩ := h; exact .dic b l (c.ex hid_ex)
  | non => exact Fz.ex hid_ex h
  | bl _ => exact Fz.ex hid_ex h
  | int _ => exact Fz.ex hid_ex h
  | str _ => exact Fz.ex hid_ex h
  | ty _ => exact Fz.ex hid_ex h
  | tup _ => exact Fz.ex hid_ex h
end

/-! ### readings -/
abbrev WE := Env → (Sl → Env → Prop) → Prop
abbrev WP := Env → (Sl → Prop) → Prop
abbrev WT := Env → (Bool → Env → Prop) → Prop
/-- an argument: a value, or a slot that is handed on (owned, or to be looked at) -/
inductive Ag where
  | v (s : Sl) | slot (i : Nat) (own : Bool)
abbrev WA := Env → (List Ag → Env → Prop) → Prop
structure WEnds where
  nx : Env → Prop
  rt : Sl → Env → Prop
  bk : Env → Prop := fun _ => False
  ct : Env → Prop := fun _ => False
abbrev WS := WEnds → Env → Prop
structure WEnds.Le (D D' : WEnds) : Prop where
  nx : ∀ e, D.nx e → D'.nx e
  rt : ∀ s e, D.rt s e → D'.rt s e
  bk : ∀ e, D.bk e → D'.bk e
  ct : ∀ e, D.ct e → D'.ct e
def MonoE (w : WE) : Prop := ∀ env (Q Q' : Sl → Env → Prop), (∀ r e, Q r e → Q' r e) → w env Q → w env Q'
def MonoP (w : WP) : Prop := ∀ env (Q Q' : Sl → Prop), (∀ r, Q r → Q' r) → w env Q → w env Q'
def MonoT (w : WT) : Prop := ∀ env (Q Q' : Bool → Env → Prop), (∀ r e, Q r e → Q' r e) → w env Q → w env Q'
def MonoA (w : WA) : Prop := ∀ env (Q Q' : List Ag → Env → Prop), (∀ r e, Q r e → Q' r e) → w env Q → w env Q'
def MonoS (w : WS) : Prop := ∀ (D D' : WEnds) env, D.Le D' → w D env → w D' env

/-- a result: what is owned of it stands apart -/
structure Res (G : Gx) (T0 : Addr → Prop) (H0 : Hp) (env0 : Env) (F0 : Nat → List Addr) (T : Addr → Prop) (H : Hp) (env : Env) (F : Nat → List Addr) (r : Sl) (v : V) (fr : List Addr) : Prop where
  rel : SlR G T H r v fr
  dis : ∀ o, r = .own o → ∀ i, IsS env i → ∀ a ∈ fr, a ∉ F i
  from_ : ∀ o, r = .own o → ∀ a ∈ fr, OwnP env0 F0 a ∨ H0 a = none
def tW (G : Gx) (w : WE) : TE := fun σ H Q => ∃ T env F, RE G T H σ env F ∧ w env fun r env' => ∀ v T' H' F' fr, Att G σ T H env F T' H' env' F' → Res G T H env F T' H' env' F' r v fr → Q v H'
def tWP (G : Gx) (w : WP) : TE := fun σ H Q => ∃ T env F, RE G T H σ env F ∧ w env fun r => ∀ v H' fr, Ex H H' → RE G T H' σ env F → SlR G T H' r v fr → (∀ o, r ≠ .own o) → Q v H'
def tWT (G : Gx) (w : WT) : TT := fun σ H Q => ∃ T env F, RE G T H σ env F ∧ w env fun b env' => ∀ T' H' F', Att G σ T H env F T' H' env' F' → Q b H'
structure GE (X : Cx) (G : Gx) (e : Expr) (w : WE) : Prop where
  pe : PE X e (tW G w)
  mono : MonoE w
structure GP (X : Cx) (G : Gx) (e : Expr) (w : WP) : Prop where
  pe : PE X e (tWP G w)
  mono : MonoP w
structure GT (X : Cx) (G : Gx) (e : Expr) (w : WT) : Prop where
  pt : PT X e (tWT G w)
  mono : MonoT w
section
variable {X : Cx} {e : Expr}
theorem pe_imp {t t' : TE} (h : PE X e t) (i : ∀ σ H Q, t' σ H Q → t σ H Q) : PE X e t' := ⟨fun pins s σ H Q I q => h.run pins s σ H Q I (i σ H Q q)⟩
theorem pt_imp {t t' : TT} (h : PT X e t) (i : ∀ σ H Q, t' σ H Q → t σ H Q) : PT X e t' := ⟨fun pins s σ H Q I q => h.run pins s σ H Q I (i σ H Q q)⟩
theorem pa_imp {es : List Expr} {t t' : TA} (h : PA X es t) (i : ∀ σ H Q, t' σ H Q → t σ H Q) : PA X es t' := ⟨fun pos pins s σ H Q I q => h.run pos pins s σ H Q I (i σ H Q q)⟩
theorem ps_imp {st : Stmt} {t t' : TS} (h : PS X st t) (i : ∀ D σ H, t' D σ H → t D σ H) : PS X st t' := ⟨fun pins s σ H D I q => h.run pins s σ H D I (i D σ H q)⟩
theorem pss_imp {st : List Stmt} {t t' : TS} (h : PSs X st t) (i : ∀ D σ H, t' D σ H → t D σ H) : PSs X st t' := ⟨fun pins s σ H D I q => h.run pins s σ H D I (i D σ H q)⟩
end
section
variable {G : Gx} {T T' : Addr → Prop} {H H' : Hp} {σ : L2.St} {env : Env} {F : Nat → List Addr} {s : Sl} {v : V} {fr : List Addr}
theorem ex_dom (e : Ex H H') : ∀ a, H a ≠ none → H' a ≠ none := fun a h => by
  cases q : H a with
  | none => exact absurd q h
  | some o => rw [e a o q]; exact nofun
theorem RE.ex (r : RE G T H σ env F) (e : Ex H H') : RE G T H' σ env F :=
  r.chg (P := fun _ => False) ⟨fun a o h _ => e a o h, fun _ h _ => h, fun _ h => .inl h, fun a h => ex_dom e a (r.trk a h), ex_dom e⟩ (fun _ h => h.elim) (fun _ h => h.elim) fun _ _ _ _ h => h
theorem Att.ex (r : RE G T H σ env F) (e : Ex H H') : Att G σ T H env F T H' env F :=
  ⟨⟨fun a o h _ => e a o h, fun _ h _ => h, fun _ h => .inl h, fun a h => ex_dom e a (r.trk a h), ex_dom e⟩, r.ex e, fun _ h => .inl h, fun _ _ h => ⟨h, rfl⟩⟩
theorem hid_mono (e : Ex H H') : Ex (hid T H) (hid T H') := fun a o h => hid_of (e a o (hid_some h).1) (hid_some h).2
/-- a value is kept while the frame goes on -/
theorem Fz.att {T0 : Addr → Prop} {H0 : Hp} {env0 env1 : Env} {F0 F1 : Nat → List Addr} {d : D} (r : RE G T0 H0 σ env0 F0) (a : Att G σ T0 H0 env0 F0 T H env1 F1) (h : Fz G.K (hid T0 H0) v d) : Fz G.K (hid T H) v d := h.ex (a.chg.hid r.sub)
theorem GE.of_pure {X : Cx} {e : Expr} {w : WP} (h : GP X G e w) : GE X G e (fun env Q => w env fun r => Q r env) := by
  refine ⟨pe_imp h.pe fun σ H Q ⟨T, env, F, r, q⟩ => ⟨T, env, F, r, h.mono env _ _ (fun s q v H' fr e r' rel no => ?_) q⟩, fun env Q Q' i q => h.mono env _ _ (fun s z => i s env z) q⟩
  exact q v T H' F fr (Att.ex r e) ⟨rel, fun o z => absurd z (no o), fun o z => absurd z (no o)⟩
end

/-! ### names, constants -/
def wVar (i : Nat) : WP := fun env Q => match env[i]? with
  | some (some (.f d)) => Q (.f d)
  | some (some (.own o)) => Q (.vw o)
  | some (some (.vw o)) => Q (.vw o)
  | _ => False
def wC (d : D) : WP := fun _ Q => Q (.f d)
section
variable {X : Cx} {G : Gx} {e : Expr}
theorem gp_var {i : Nat} (h : PE X e (tVar i)) : GP X G e (wVar i) := by
  refine ⟨pe_imp h fun σ H Q ⟨T, env, F, r, q⟩ => ?_, fun env Q Q' i q => ?_⟩
  · unfold wVar at q
    split at q
    · rename_i d hd
      obtain ⟨v, h1, h2⟩ := r.slot i _ hd
      exact ⟨v, h1, q v H _ (Ex.refl H) r h2 nofun⟩
    · rename_i o ho
      obtain ⟨v, h1, h2⟩ := r.slot i _ ho
      exact ⟨v, h1, q v H _ (Ex.refl H) r h2 nofun⟩
    · rename_i o ho
      obtain ⟨v, h1, h2⟩ := r.slot i _ ho
      exact ⟨v, h1, q v H _ (Ex.refl H) r h2 nofun⟩
    · exact q.elim
  · unfold wVar at q ⊢
    split <;> simp_all
theorem gp_c {d : D} {v : V} (h : PE X e (tC v)) (r : ∀ K H, Fz K H v d) : GP X G e (wC d) := by
  refine ⟨pe_imp h fun σ H Q ⟨T, env, F, r', q⟩ => ?_, fun env Q Q' i q => i _ q⟩
  exact q v H [] (Ex.refl H) r' ⟨r _ _, rfl⟩ nofun
theorem gp_int {i : Int} {j pos} : GP X G (.Constant (.int i) j pos) (wC (.int i)) := gp_c pe_int fun _ _ => .int i
theorem gp_bl {b j pos} : GP X G (.Constant (.bool b) j pos) (wC (.bl b)) := gp_c pe_bl fun _ _ => .bl b
theorem gp_non {j pos} : GP X G (.Constant .none j pos) (wC .non) := gp_c pe_non fun _ _ => .non
theorem gp_str {x j pos} : GP X G (.Constant (.str x) j pos) (wC (.str x)) := gp_c pe_str fun _ _ => .str x
/-- a module's name -/
theorem gp_glob {x : Str} {d : D} {v : V} {pos : Pos} (h : PE X (.Name x pos) (tC v)) (r : ∀ H, Fz G.K H v d) : GP X G (.Name x pos) (wC d) := by
  refine ⟨pe_imp h fun σ H Q ⟨T, env, F, r', q⟩ => ?_, fun env Q Q' i q => i _ q⟩
  exact q v H [] (Ex.refl H) r' ⟨r _, rfl⟩ nofun

/-! ### two values -/
abbrev Op2 := D → D → (D → Prop) → Prop
def MonoO (o : Op2) : Prop := ∀ a b (Q Q' : D → Prop), (∀ d, Q d → Q' d) → o a b Q → o a b Q'
/-- the reading of an operation of two values -/
def rO (G : Gx) (o : Op2) : R2 := fun x y H Q => ∃ T d1 d2, Trk T H ∧ Cz G.K T H x d1 ∧ Cz G.K T H y d2 ∧ o d1 d2 fun d => ∀ v H', Ex H H' → Fz G.K (hid T H') v d → Q v H'
structure OpX (X : Cx) (G : Gx) (f : Value → Value → Sem Value) (o : Op2) : Prop where
  ok : OpR X f (rO G o)
  mono : MonoO o
def wBin (o : Op2) (w1 w2 : WE) : WE := fun env Q => w1 env fun r1 e1 => ∃ d1, r1 = .f d1 ∧ w2 e1 fun r2 e2 => ∃ d2, r2.cd = some d2 ∧ o d1 d2 fun d => Q (.f d) e2
def wBinP (o : Op2) (w1 w2 : WP) : WP := fun env Q => w1 env fun r1 => ∃ d1, r1.cd = some d1 ∧ w2 env fun r2 => ∃ d2, r2.cd = some d2 ∧ o d1 d2 fun d => Q (.f d)
theorem Cz.ex {K : PySem.W.Frag} {T : Addr → Prop} {H H' : Hp} {v : V} {d : D} (h : Cz K T H v d) (e : Ex H H') : Cz K T H' v d := by
  cases d with
  | lst ds => obtain ⟨a, vs, rfl, b, c⟩ := h; exact ⟨a, vs, rfl, ex_l e b, c.ex (hid_mono e)⟩
  | dic ks ds => obtain ⟨a, vs, rfl, b, l, c⟩ := h; exact ⟨a, vs, rfl, ex_rd e b, l, c.ex (hid_mono e)⟩
  | non => exact Fz.ex (hid_mono e) h
  | bl _ => exact Fz.ex (hid_mono e) h
  | int _ => exact Fz.ex (hid_mono e) h
  | str _ => exact Fz.ex (hid_mono e) h
  | ty _ => exact Fz.ex (hid_mono e) h
  | tup _ => exact Fz.ex (hid_mono e) h
variable {a b : Expr} {w1 w2 : WE} {v1 v2 : WP} {o : Op2} {f : Value → Value → Sem Value}
theorem binW (ma : MonoE w1) (mb : MonoE w2) (mo : MonoO o) {σ : L2.St} {H : Hp} {Q : VK} (h : tW G (wBin o w1 w2) σ H Q) : tOp (rO G o) (tW G w1) (tW G w2) σ H Q := by
  obtain ⟨T, env, F, r, q⟩ := h
  refine ⟨T, env, F, r, ma env _ _ (fun r1 e1 ⟨d1, e, q⟩ v1 T1 H1 F1 f1 a1 z1 => ?_) q⟩
  subst e
  refine ⟨T1, e1, F1, a1.re, mb e1 _ _ (fun r2 e2 ⟨d2, hd, q⟩ v2 T2 H2 F2 f2 a2 z2 => ?_) q⟩
  refine ⟨T2, d1, d2, a2.re.trk, Cz.of (Fz.att a1.re a2 z1.rel.1), z2.rel.cz hd, mo _ _ _ _ (fun d q v H3 e3 fz => ?_) q⟩
  exact q v T2 H3 F2 [] ((a1.trans r.trk a2).trans r.trk (Att.ex a2.re e3)) ⟨⟨fz, rfl⟩, nofun, nofun⟩
theorem monoBin (ma : MonoE w1) (mb : MonoE w2) (mo : MonoO o) : MonoE (wBin o w1 w2) := fun env Q Q' i q =>
  ma env _ _ (fun r1 e1 ⟨d1, e, q⟩ => ⟨d1, e, mb e1 _ _ (fun r2 e2 ⟨d2, hd, q⟩ => ⟨d2, hd, mo _ _ _ _ (fun d q => i _ _ q) q⟩) q⟩) q
theorem binP (ma : MonoP v1) (mb : MonoP v2) (mo : MonoO o) {σ : L2.St} {H : Hp} {Q : VK} (h : tWP G (wBinP o v1 v2) σ H Q) : tOp (rO G o) (tWP G v1) (tWP G v2) σ H Q := by
  obtain ⟨T, env, F, r, q⟩ := h
  refine ⟨T, env, F, r, ma env _ _ (fun r1 ⟨d1, e, q⟩ v1 H1 f1 x1 r1' z1 n1 => ?_) q⟩
  refine ⟨T, env, F, r1', mb env _ _ (fun r2 ⟨d2, hd, q⟩ v2 H2 f2 x2 r2' z2 n2 => ?_) q⟩
  refine ⟨T, d1, d2, r2'.trk, (z1.cz e).ex x2, z2.cz hd, mo _ _ _ _ (fun d q v H3 e3 fz => ?_) q⟩
  exact q v H3 [] (x1.trans (x2.trans e3)) (r2'.ex e3) ⟨fz, rfl⟩ nofun
theorem monoBinP (ma : MonoP v1) (mb : MonoP v2) (mo : MonoO o) : MonoP (wBinP o v1 v2) := fun env Q Q' i q =>
  ma env _ _ (fun r1 ⟨d1, e, q⟩ => ⟨d1, e, mb env _ _ (fun r2 ⟨d2, hd, q⟩ => ⟨d2, hd, mo _ _ _ _ (fun d q => i _ q) q⟩) q⟩) q
theorem ge_op {op : Operator} {pos : Pos} (ho : OpX X G (binaryOp op) o) (ha : GE X G a w1) (hb : GE X G b w2) : GE X G (.BinOp a op b pos) (wBin o w1 w2) :=
  ⟨pe_imp (pe_op ho.ok ha.pe hb.pe) fun _ _ _ h => binW ha.mono hb.mono ho.mono h, monoBin ha.mono hb.mono ho.mono⟩
theorem gp_op {op : Operator} {pos : Pos} (ho : OpX X G (binaryOp op) o) (ha : GP X G a v1) (hb : GP X G b v2) : GP X G (.BinOp a op b pos) (wBinP o v1 v2) :=
  ⟨pe_imp (pe_op ho.ok ha.pe hb.pe) fun _ _ _ h => binP ha.mono hb.mono ho.mono h, monoBinP ha.mono hb.mono ho.mono⟩
theorem ge_cmp {op : CmpOp} {pos : Pos} (ho : OpX X G (compareOp op) o) (ha : GE X G a w1) (hb : GE X G b w2) (hm : behindInMarks op b = false) : GE X G (.Compare a [op] [b] pos) (wBin o w1 w2) :=
  ⟨pe_imp (pe_cmpR ho.ok ha.pe hb.pe hm) fun _ _ _ h => binW ha.mono hb.mono ho.mono h, monoBin ha.mono hb.mono ho.mono⟩
theorem gp_cmp {op : CmpOp} {pos : Pos} (ho : OpX X G (compareOp op) o) (ha : GP X G a v1) (hb : GP X G b v2) (hm : behindInMarks op b = false) : GP X G (.Compare a [op] [b] pos) (wBinP o v1 v2) :=
  ⟨pe_imp (pe_cmpR ho.ok ha.pe hb.pe hm) fun _ _ _ h => binP ha.mono hb.mono ho.mono h, monoBinP ha.mono hb.mono ho.mono⟩
/-- x[i] by values -/
structure IxX (X : Cx) (G : Gx) (o : Op2) : Prop where
  ok : IxR X (rO G o)
  mono : MonoO o
theorem ge_ix {pos : Pos} (ho : IxX X G o) (ha : GE X G a w1) (hb : GE X G b w2) (hs : PlainIx b) : GE X G (.Subscript a b pos) (wBin o w1 w2) :=
  ⟨pe_imp (pe_ix ho.ok ha.pe hb.pe hs) fun _ _ _ h => binW ha.mono hb.mono ho.mono h, monoBin ha.mono hb.mono ho.mono⟩
theorem gp_ix {pos : Pos} (ho : IxX X G o) (ha : GP X G a v1) (hb : GP X G b v2) (hs : PlainIx b) : GP X G (.Subscript a b pos) (wBinP o v1 v2) :=
  ⟨pe_imp (pe_ix ho.ok ha.pe hb.pe hs) fun _ _ _ h => binP ha.mono hb.mono ho.mono h, monoBinP ha.mono hb.mono ho.mono⟩
end
end Fx

namespace Fx
open PySem PySem.Spec PyProof.Rows L2 Evl Lk

/-! ### tests -/
def dTru : D → (Bool → Prop) → Prop
  | .non, Q => Q false
  | .bl b, Q => Q b
  | .int i, Q => Q (i != 0)
  | .str x, Q => x.length ≤ sizeLine ∧ Q ((x.length : Int) != 0)
  | .lst ds, Q => Q (!ds.isEmpty)
  | .tup ds, Q => Q (!ds.isEmpty)
  | _, _ => False
def wTru (w : WE) : WT := fun env Q => w env fun r e => ∃ d, r.cd = some d ∧ dTru d fun b => Q b e
def wTB (w : WE) : WT := fun env Q => w env fun r e => ∃ b, r = .f (.bl b) ∧ Q b e
def wAnd (t u : WT) : WT := fun env Q => t env fun c e => if c = true then u e Q else Q false e
def wOr (t u : WT) : WT := fun env Q => t env fun c e => if c = true then Q true e else u e Q
def wNot (t : WT) : WT := fun env Q => t env fun c e => Q (!c) e
def wAndV (t u : WE) : WE := fun env Q => t env fun r e => ∃ b, r = .f (.bl b) ∧ if b = true then u e Q else Q (.f (.bl false)) e
def wOrV (t u : WE) : WE := fun env Q => t env fun r e => ∃ b, r = .f (.bl b) ∧ if b = true then Q (.f (.bl true)) e else u e Q
def wNotV (t : WE) : WE := fun env Q => t env fun r e => ∃ b, r = .f (.bl b) ∧ Q (.f (.bl (!b))) e
def wIf (t : WT) (u v : WE) : WE := fun env Q => t env fun c e => if c = true then u e Q else v e Q
section
variable {X : Cx} {G : Gx} {a b c : Expr} {rest : List Expr} {pos : Pos} {t u : WT} {w1 w2 w3 : WE}
theorem FzL.emp {K : PySem.W.Frag} {H : Hp} {vs : List V} {ds : List D} (h : FzL K H vs ds) : (!ds.isEmpty) = (!vs.isEmpty) := by
  cases h <;> rfl
theorem tru_of {K : PySem.W.Frag} {T : Addr → Prop} {H : Hp} {v : V} {d : D} {Q : Bool → Prop} (h : Cz K T H v d) (q : dTru d Q) : ∃ k, TruV K v H k ∧ Q k := by
  cases d with
  | non => cases h; exact ⟨false, rfl, q⟩
  | bl b => cases h; exact ⟨b, rfl, q⟩
  | int i => cases h; exact ⟨_, rfl, q⟩
  | str x => cases h; exact ⟨_, ⟨q.1, rfl⟩, q.2⟩
  | ty n => exact q.elim
  | dic ks ds => exact q.elim
  | lst ds =>
    obtain ⟨a, vs, rfl, h1, h2⟩ := h
    have q' : Q (!ds.isEmpty) := q
    rw [h2.emp] at q'
    exact ⟨_, .inl ⟨vs, h1, rfl⟩, q'⟩
  | tup ds =>
    cases h with
    | tup h1 h2 =>
      have q' : Q (!ds.isEmpty) := q
      rw [h2.emp] at q'
      exact ⟨_, .inr (.inl ⟨_, ex_t hid_ex h1, rfl⟩), q'⟩
theorem dTru_mono {d : D} {Q Q' : Bool → Prop} (i : ∀ b, Q b → Q' b) (q : dTru d Q) : dTru d Q' := by
  cases d <;> first | exact i _ q | exact q.elim | exact ⟨q.1, i _ q.2⟩
theorem gt_tru (h : GE X G a w1) (hK : X.K = G.K := by rfl) (he : ∀ whole, isTrue a X.env whole = (do let v ← whole; standAt a.pos; holding [v] (truthy v)) := by intro _; rfl) : GT X G a (wTru w1) := by
  refine ⟨pt_imp (pt_truth h.pe he) fun σ H Q ⟨T, env, F, r, q⟩ => ⟨T, env, F, r, h.mono env _ _ (fun s e ⟨d, hd, q⟩ v T' H' F' fr a z => ?_) q⟩, fun env Q Q' i q => h.mono env _ _ (fun s e ⟨d, hd, q⟩ => ⟨d, hd, dTru_mono (fun b z => i b e z) q⟩) q⟩
  obtain ⟨k, h1, h2⟩ := tru_of (z.rel.cz hd) q
  exact ⟨k, hK ▸ h1, h2 T' H' F' a⟩
theorem gt_b (h : GE X G a w1) (he : ∀ whole, isTrue a X.env whole = (do let v ← whole; standAt a.pos; holding [v] (truthy v)) := by intro _; rfl) : GT X G a (wTB w1) := by
  refine ⟨pt_imp (pt_val h.pe he) fun σ H Q ⟨T, env, F, r, q⟩ => ⟨T, env, F, r, h.mono env _ _ (fun s e ⟨b, hb, q⟩ v T' H' F' fr a z => ?_) q⟩, fun env Q Q' i q => h.mono env _ _ (fun s e ⟨b, hb, q⟩ => ⟨b, hb, i _ _ q⟩) q⟩
  subst hb
  obtain ⟨h1, _⟩ := z.rel
  cases h1
  exact ⟨_, rfl, q T' H' F' a⟩
/-- a comparison as a test -/
theorem gt_cmp {op : CmpOp} {o : Op2} (ho : OpX X G (compareOp op) o) (ha : GE X G a w1) (hb : GE X G b w2) (hm : behindInMarks op b = false) : GT X G (.Compare a [op] [b] pos) (wTB (wBin o w1 w2)) := by
  have m := monoBin ha.mono hb.mono ho.mono
  refine ⟨pt_imp (pt_cmpR ho.ok ha.pe hb.pe hm) fun σ H Q ⟨T, env, F, r, q⟩ => ?_, fun env Q Q' i q => m env _ _ (fun s e ⟨b, hb, q⟩ => ⟨b, hb, i _ _ q⟩) q⟩
  refine binW ha.mono hb.mono ho.mono ⟨T, env, F, r, m env _ _ (fun s e ⟨b, hb, q⟩ v T' H' F' fr a z => ?_) q⟩
  subst hb
  obtain ⟨h1, _⟩ := z.rel
  cases h1
  exact ⟨_, rfl, q T' H' F' a⟩
theorem gt_cmpP {op : CmpOp} {o : Op2} {v1 v2 : WP} (ho : OpX X G (compareOp op) o) (ha : GP X G a v1) (hb : GP X G b v2) (hm : behindInMarks op b = false) : GT X G (.Compare a [op] [b] pos) (fun env Q => wBinP o v1 v2 env fun r => ∃ c, r = .f (.bl c) ∧ Q c env) := by
  have m := monoBinP ha.mono hb.mono ho.mono
  refine ⟨pt_imp (pt_cmpR ho.ok ha.pe hb.pe hm) fun σ H Q ⟨T, env, F, r, q⟩ => ?_, fun env Q Q' i q => m env _ _ (fun s ⟨b, hb, q⟩ => ⟨b, hb, i _ _ q⟩) q⟩
  refine binP ha.mono hb.mono ho.mono ⟨T, env, F, r, m env _ _ (fun s ⟨c, hc, q⟩ v H' fr e r' rel no => ?_) q⟩
  subst hc
  obtain ⟨h1, _⟩ := rel
  cases h1
  exact ⟨_, rfl, q T H' F (Att.ex r e)⟩
structure GW (X : Cx) (G : Gx) (e : Expr) (w : WT) : Prop where
  pw : PW X e (tWT G w)
  mono : MonoT w
theorem pw_imp {e : Expr} {t t' : TT} (h : PW X e t) (i : ∀ σ H Q, t' σ H Q → t σ H Q) : PW X e t' := ⟨fun wh pins s σ H Q I q => h.run wh pins s σ H Q I (i σ H Q q)⟩
theorem gw_and1 (h : GT X G a t) : GW X G (.BoolOp .And [a] pos) t := ⟨pw_and1 h.pt, h.mono⟩
theorem gw_or1 (h : GT X G a t) : GW X G (.BoolOp .Or [a] pos) t := ⟨pw_or1 h.pt, h.mono⟩
theorem GW.gt {e : Expr} (h : GW X G e t) : GT X G e t := ⟨h.pw.pt, h.mono⟩
theorem gw_and (ha : GT X G a t) (hb : GW X G (.BoolOp .And (b :: rest) pos) u) : GW X G (.BoolOp .And (a :: b :: rest) pos) (wAnd t u) := by
  refine ⟨pw_imp (pw_and ha.pt hb.pw) fun σ H Q ⟨T, env, F, r, q⟩ => ⟨T, env, F, r, ha.mono env _ _ (fun c e q T' H' F' a => ?_) q⟩, fun env Q Q' i q => ha.mono env _ _ (fun c e q => ?_) q⟩
  · cases c with
    | true => exact ite_tt ⟨T', e, F', a.re, hb.mono e _ _ (fun b e2 q T2 H2 F2 a2 => q T2 H2 F2 (a.trans r.trk a2)) q⟩
    | false => exact ite_ff (q T' H' F' a)
  · cases c with
    | true => exact hb.mono e _ _ i q
    | false => exact i _ _ q
theorem gw_or (ha : GT X G a t) (hb : GW X G (.BoolOp .Or (b :: rest) pos) u) : GW X G (.BoolOp .Or (a :: b :: rest) pos) (wOr t u) := by
  refine ⟨pw_imp (pw_or ha.pt hb.pw) fun σ H Q ⟨T, env, F, r, q⟩ => ⟨T, env, F, r, ha.mono env _ _ (fun c e q T' H' F' a => ?_) q⟩, fun env Q Q' i q => ha.mono env _ _ (fun c e q => ?_) q⟩
  · cases c with
    | false => exact ite_ff ⟨T', e, F', a.re, hb.mono e _ _ (fun b e2 q T2 H2 F2 a2 => q T2 H2 F2 (a.trans r.trk a2)) q⟩
    | true => exact ite_tt (q T' H' F' a)
  · cases c with
    | false => exact hb.mono e _ _ i q
    | true => exact i _ _ q
theorem gt_not (ha : GT X G a t) : GT X G (.UnaryOp .Not a pos) (wNot t) :=
  ⟨pt_imp (pt_not ha.pt) fun σ H Q ⟨T, env, F, r, q⟩ => ⟨T, env, F, r, q⟩, fun env Q Q' i q => ha.mono env _ _ (fun c e q => i _ _ q) q⟩
theorem ge_one {op} (h : GE X G a w1) : GE X G (.BoolOp op [a] pos) w1 := ⟨pe_one h.pe, h.mono⟩
theorem bl_of {T : Addr → Prop} {H : Hp} {v : V} {k : Bool} {fr : List Addr} (h : SlR G T H (.f (.bl k)) v fr) : v = .bl k := by
  obtain ⟨h1, _⟩ := h
  cases h1
  rfl
theorem res_f {T0 T : Addr → Prop} {H0 H : Hp} {env0 env : Env} {F0 F : Nat → List Addr} {d : D} {v : V} (h : Fz G.K (hid T H) v d) : Res G T0 H0 env0 F0 T H env F (.f d) v [] := ⟨⟨h, rfl⟩, nofun, nofun⟩
theorem res_trans {T0 T1 T2 : Addr → Prop} {H0 H1 H2 : Hp} {σ : L2.St} {env0 env1 env2 : Env} {F0 F1 F2 : Nat → List Addr} {r : Sl} {v : V} {fr : List Addr} (t : Trk T0 H0) (a : Att G σ T0 H0 env0 F0 T1 H1 env1 F1) (z : Res G T1 H1 env1 F1 T2 H2 env2 F2 r v fr) : Res G T0 H0 env0 F0 T2 H2 env2 F2 r v fr :=
  ⟨z.rel, z.dis, fun o e x hx => by
    rcases z.from_ o e x hx with q | q
    · exact a.own x q
    · refine .inr ?_
      cases e : H0 x with
      | none => rfl
      | some o => exact absurd q (a.chg.dom x (by rw [e]; exact nofun))⟩
theorem ge_and (ha : GE X G a w1) (hb : GE X G (.BoolOp .And (b :: rest) pos) w2) : GE X G (.BoolOp .And (a :: b :: rest) pos) (wAndV w1 w2) := by
  refine ⟨pe_imp (pe_and ha.pe hb.pe) fun σ H Q ⟨T, env, F, r, q⟩ => ⟨T, env, F, r, ha.mono env _ _ (fun s e ⟨k, hk, q⟩ v T' H' F' fr a z => ?_) q⟩, fun env Q Q' i q => ha.mono env _ _ (fun s e ⟨k, hk, q⟩ => ⟨k, hk, ?_⟩) q⟩
  · subst hk
    refine ⟨k, bl_of z.rel, ?_⟩
    cases k with
    | true => exact ite_tt ⟨T', e, F', a.re, hb.mono e _ _ (fun b e2 q v2 T2 H2 F2 f2 a2 z2 => q v2 T2 H2 F2 f2 (a.trans r.trk a2) (res_trans r.trk a z2)) q⟩
    | false => exact ite_ff (q _ T' H' F' [] a (res_f (.bl false)))
  · cases k with
    | true => exact hb.mono e _ _ i q
    | false => exact i _ _ q
theorem ge_or (ha : GE X G a w1) (hb : GE X G (.BoolOp .Or (b :: rest) pos) w2) : GE X G (.BoolOp .Or (a :: b :: rest) pos) (wOrV w1 w2) := by
  refine ⟨pe_imp (pe_or ha.pe hb.pe) fun σ H Q ⟨T, env, F, r, q⟩ => ⟨T, env, F, r, ha.mono env _ _ (fun s e ⟨k, hk, q⟩ v T' H' F' fr a z => ?_) q⟩, fun env Q Q' i q => ha.mono env _ _ (fun s e ⟨k, hk, q⟩ => ⟨k, hk, ?_⟩) q⟩
  · subst hk
    refine ⟨k, bl_of z.rel, ?_⟩
    cases k with
    | false => exact ite_ff ⟨T', e, F', a.re, hb.mono e _ _ (fun b e2 q v2 T2 H2 F2 f2 a2 z2 => q v2 T2 H2 F2 f2 (a.trans r.trk a2) (res_trans r.trk a z2)) q⟩
    | true => exact ite_tt (q _ T' H' F' [] a (res_f (.bl true)))
  · cases k with
    | false => exact hb.mono e _ _ i q
    | true => exact i _ _ q
theorem ge_not (ha : GE X G a w1) : GE X G (.UnaryOp .Not a pos) (wNotV w1) := by
  refine ⟨pe_imp (pe_not ha.pe) fun σ H Q ⟨T, env, F, r, q⟩ => ⟨T, env, F, r, ha.mono env _ _ (fun s e ⟨k, hk, q⟩ v T' H' F' fr a z => ?_) q⟩, fun env Q Q' i q => ha.mono env _ _ (fun s e ⟨k, hk, q⟩ => ⟨k, hk, i _ _ q⟩) q⟩
  subst hk
  exact ⟨k, bl_of z.rel, q _ T' H' F' [] a (res_f (.bl _))⟩
theorem ge_if (ht : GT X G c t) (ha : GE X G a w1) (hb : GE X G b w2) : GE X G (.IfExp c a b pos) (wIf t w1 w2) := by
  refine ⟨pe_imp (pe_ifExp ht.pt ha.pe hb.pe) fun σ H Q ⟨T, env, F, r, q⟩ => ⟨T, env, F, r, ht.mono env _ _ (fun k e q T' H' F' a => ?_) q⟩, fun env Q Q' i q => ht.mono env _ _ (fun k e q => ?_) q⟩
  · cases k with
    | true => exact ite_tt ⟨T', e, F', a.re, ha.mono e _ _ (fun b e2 q v2 T2 H2 F2 f2 a2 z2 => q v2 T2 H2 F2 f2 (a.trans r.trk a2) (res_trans r.trk a z2)) q⟩
    | false => exact ite_ff ⟨T', e, F', a.re, hb.mono e _ _ (fun b e2 q v2 T2 H2 F2 f2 a2 z2 => q v2 T2 H2 F2 f2 (a.trans r.trk a2) (res_trans r.trk a z2)) q⟩
  · cases k with
    | true => exact ha.mono e _ _ i q
    | false => exact hb.mono e _ _ i q
/-! a < b < c -/
def wChain (o1 o2 : Op2) (w1 w2 w3 : WE) : WE := fun env Q => w1 env fun r1 e1 => ∃ d1, r1 = .f d1 ∧ w2 e1 fun r2 e2 => ∃ d2, r2 = .f d2 ∧ o1 d1 d2 fun d => ∃ k, d = .bl k ∧ if k = true then w3 e2 fun r3 e3 => ∃ d3, r3.cd = some d3 ∧ o2 d2 d3 fun d => Q (.f d) e3 else Q (.f (.bl false)) e2
theorem chainW {o1 o2 : Op2} (ma : MonoE w1) (mb : MonoE w2) (mc : MonoE w3) (m1 : MonoO o1) (m2 : MonoO o2) {σ : L2.St} {H : Hp} {Q : VK} (h : tW G (wChain o1 o2 w1 w2 w3) σ H Q) : tChain (rO G o1) (rO G o2) (tW G w1) (tW G w2) (tW G w3) σ H Q := by
  obtain ⟨T, env, F, r, q⟩ := h
  refine ⟨T, env, F, r, ma env _ _ (fun r1 e1 ⟨d1, e, q⟩ x T1 H1 F1 f1 a1 z1 => ?_) q⟩
  subst e
  refine ⟨T1, e1, F1, a1.re, mb e1 _ _ (fun r2 e2 ⟨d2, e, q⟩ y T2 H2 F2 f2 a2 z2 => ?_) q⟩
  subst e
  refine ⟨T2, d1, d2, a2.re.trk, Cz.of (Fz.att a1.re a2 z1.rel.1), Cz.of z2.rel.1, m1 _ _ _ _ (fun d ⟨k, e, q⟩ v H3 e3 fz => ?_) q⟩
  subst e
  cases fz
  refine ⟨k, rfl, ?_⟩
  have a3 := (a1.trans r.trk a2).trans r.trk (Att.ex a2.re e3)
  cases k with
  | false => exact ite_ff (q _ T2 H3 F2 [] a3 (res_f (.bl false)))
  | true =>
    refine ite_tt ⟨T2, e2, F2, a3.re, mc e2 _ _ (fun r3 e4 ⟨d3, e, q⟩ z T4 H4 F4 f4 a4 z4 => ?_) q⟩
    refine ⟨T4, d2, d3, a4.re.trk, Cz.of (Fz.att a3.re a4 (z2.rel.1.ex (hid_mono e3))), z4.rel.cz e, m2 _ _ _ _ (fun d q v H5 e5 fz => ?_) q⟩
    exact q v T4 H5 F4 [] ((a3.trans r.trk a4).trans r.trk (Att.ex a4.re e5)) (res_f fz)
theorem monoChain {o1 o2 : Op2} (ma : MonoE w1) (mb : MonoE w2) (mc : MonoE w3) (m1 : MonoO o1) (m2 : MonoO o2) : MonoE (wChain o1 o2 w1 w2 w3) := fun env Q Q' i q =>
  ma env _ _ (fun r1 e1 ⟨d1, e, q⟩ => ⟨d1, e, mb e1 _ _ (fun r2 e2 ⟨d2, e, q⟩ => ⟨d2, e, m1 _ _ _ _ (fun d ⟨k, e, q⟩ => ⟨k, e, by
    cases k with
    | false => exact i _ _ q
    | true => exact mc _ _ _ (fun r3 e3 ⟨d3, e, q⟩ => ⟨d3, e, m2 _ _ _ _ (fun d q => i _ _ q) q⟩) q⟩) q⟩) q⟩) q
theorem ge_chain {op op' : CmpOp} {o1 o2 : Op2} (h1 : OpX X G (compareOp op) o1) (h2 : OpX X G (compareOp op') o2) (ha : GE X G a w1) (hb : GE X G b w2) (hc : GE X G c w3)
    (hm : lastMarks [op, op'] [b, c] = false := by with_unfolding_all rfl) : GE X G (.Compare a [op, op'] [b, c] pos) (wChain o1 o2 w1 w2 w3) :=
  ⟨pe_imp (pe_chain h1.ok h2.ok ha.pe hb.pe hc.pe hm) fun _ _ _ h => chainW ha.mono hb.mono hc.mono h1.mono h2.mono h, monoChain ha.mono hb.mono hc.mono h1.mono h2.mono⟩
theorem gt_chain {op op' : CmpOp} {o1 o2 : Op2} (h1 : OpX X G (compareOp op) o1) (h2 : OpX X G (compareOp op') o2) (ha : GE X G a w1) (hb : GE X G b w2) (hc : GE X G c w3)
    (hm : lastMarks [op, op'] [b, c] = false := by with_unfolding_all rfl) : GT X G (.Compare a [op, op'] [b, c] pos) (wTB (wChain o1 o2 w1 w2 w3)) := by
  have m := monoChain ha.mono hb.mono hc.mono h1.mono h2.mono
  refine ⟨pt_imp (pt_chain h1.ok h2.ok ha.pe hb.pe hc.pe hm) fun σ H Q ⟨T, env, F, r, q⟩ => ?_, fun env Q Q' i q => m env _ _ (fun s e ⟨b, hb, q⟩ => ⟨b, hb, i _ _ q⟩) q⟩
  refine chainW ha.mono hb.mono hc.mono h1.mono h2.mono ⟨T, env, F, r, m env _ _ (fun s e ⟨b, hb, q⟩ v T' H' F' fr a z => ?_) q⟩
  subst hb
  exact ⟨_, bl_of z.rel, q T' H' F' a⟩
/-! one value -/
abbrev Op1 := D → (D → Prop) → Prop
def MonoU (o : Op1) : Prop := ∀ a (Q Q' : D → Prop), (∀ d, Q d → Q' d) → o a Q → o a Q'
def rU1 (G : Gx) (o : Op1) : V → Hp → VK → Prop := fun x H Q => ∃ T d1, Trk T H ∧ Cz G.K T H x d1 ∧ o d1 fun d => ∀ v H', Ex H H' → Fz G.K (hid T H') v d → Q v H'
structure UnX (X : Cx) (G : Gx) (f : Value → Sem Value) (o : Op1) : Prop where
  ok : UnR X f (rU1 G o)
  mono : MonoU o
def wUn (o : Op1) (w : WE) : WE := fun env Q => w env fun r e => ∃ d, r.cd = some d ∧ o d fun d' => Q (.f d') e
theorem unW {o : Op1} (ma : MonoE w1) (mo : MonoU o) {σ : L2.St} {H : Hp} {Q : VK} (h : tW G (wUn o w1) σ H Q) : tUn (rU1 G o) (tW G w1) σ H Q := by
  obtain ⟨T, env, F, r, q⟩ := h
  refine ⟨T, env, F, r, ma env _ _ (fun r1 e1 ⟨d1, e, q⟩ x T1 H1 F1 f1 a1 z1 => ?_) q⟩
  refine ⟨T1, d1, a1.re.trk, z1.rel.cz e, mo _ _ _ (fun d q v H3 e3 fz => ?_) q⟩
  exact q v T1 H3 F1 [] (a1.trans r.trk (Att.ex a1.re e3)) (res_f fz)
theorem monoUn {o : Op1} (ma : MonoE w1) (mo : MonoU o) : MonoE (wUn o w1) := fun env Q Q' i q => ma env _ _ (fun r e ⟨d, h, q⟩ => ⟨d, h, mo _ _ _ (fun d q => i _ _ q) q⟩) q
theorem ge_un {op : UnaryOp} {o : Op1} (ho : UnX X G (unaryOp op) o) (ha : GE X G a w1) : GE X G (.UnaryOp op a pos) (wUn o w1) :=
  ⟨pe_imp (pe_un ho.ok ha.pe) fun _ _ _ h => unW ha.mono ho.mono h, monoUn ha.mono ho.mono⟩
end
end Fx

namespace Fx
open PySem PySem.Spec PyProof.Rows L2 Evl Lk

/-! ### a slot's owned thing is moved out of it -/
section
variable {G : Gx} {T T1 : Addr → Prop} {H H1 : Hp} {σ : L2.St} {env : Env} {F : Nat → List Addr} {s r : Sl} {v : V} {fr : List Addr} {i : Nat}
theorem set_get {env : Env} {i j : Nat} {x : Option Sl} (h : (env.set i x)[j]? = some (some s)) : (j = i ∧ x = some s) ∨ (j ≠ i ∧ env[j]? = some (some s)) := by
  by_cases e : j = i
  · subst e
    by_cases hl : j < env.length
    · rw [List.getElem?_set_self hl] at h
      exact .inl ⟨rfl, Option.some.inj h⟩
    · rw [List.set_eq_of_length_le (by omega), List.getElem?_eq_none (by omega)] at h
      cases h
  · rw [List.getElem?_set_ne (Ne.symm e)] at h
    exact .inr ⟨e, h⟩
/-- one slot forgotten -/
theorem RE.drop (r : RE G T H σ env F) (i : Nat) : RE G T H σ (env.set i none) F where
  trk := r.trk
  tab := r.tab
  slot := fun j s h => by
    rcases set_get h with ⟨_, e⟩ | ⟨_, e⟩
    · cases e
    · exact r.slot j s e
  dis := fun j k n ⟨o, h1⟩ ⟨s, h2⟩ => by
    rcases set_get h1 with ⟨_, e⟩ | ⟨_, h1⟩
    · cases e
    rcases set_get h2 with ⟨_, e⟩ | ⟨_, h2⟩
    · cases e
    exact r.dis j k n ⟨o, h1⟩ ⟨s, h2⟩
  st := r.st
  ow := fun a ⟨j, ⟨o, h⟩, ha⟩ => by
    rcases set_get h with ⟨_, e⟩ | ⟨_, h⟩
    · cases e
    · exact r.ow a ⟨j, ⟨o, h⟩, ha⟩
  t0 := r.t0
  pin := r.pin
  len := by rw [List.length_set]; exact r.len
  hx := r.hx
/-- a slot stored: what was in it is let go -/
theorem RE.store (re : RE G T H σ env F) (i : Nat) (hi : i < σ.length) (hp : G.prot i = false) (nv : ∀ o, r ≠ .vw o) (z : SlR G T H r v fr) (dis : ∀ o, r = .own o → ∀ j, IsS env j → ∀ a ∈ fr, a ∉ F j) (fo : ∀ o, r = .own o → ∀ a ∈ fr, G.P0 a ∨ G.H0 a = none) :
    RE G T H (σ.set i (some v)) (env.set i (some r)) (upF F i fr) where
  trk := re.trk
  tab := re.tab
  slot := fun j s h => by
    rcases set_get h with ⟨e, e2⟩ | ⟨e, e2⟩
    · cases e2
      subst e
      refine ⟨v, List.getElem?_set_self hi, ?_⟩
      rw [upF_same]
      exact z
    · obtain ⟨w, h1, h2⟩ := re.slot j s e2
      refine ⟨w, by rw [List.getElem?_set_ne (Ne.symm e)]; exact h1, ?_⟩
      rw [upF_ne e]
      exact h2
  dis := fun j k n ⟨o, h1⟩ ⟨s, h2⟩ a ha hb => by
    rcases set_get h1 with ⟨e, e1⟩ | ⟨e, h1⟩
    · cases e1
      subst e
      rcases set_get h2 with ⟨e, e1⟩ | ⟨e, h2⟩
      · exact n e.symm
      · rw [upF_same] at ha
        rw [upF_ne e] at hb
        exact dis o rfl k ⟨s, h2⟩ a ha hb
    · rw [upF_ne e] at ha
      have g1 : IsS env j := ⟨_, h1⟩
      rcases set_get h2 with ⟨e2, e1⟩ | ⟨e2, h2⟩
      · cases e1
        subst e2
        rw [upF_same] at hb
        cases r with
        | f d => rw [z.2] at hb; cases hb
        | own o' => exact dis o' rfl j g1 a hb ha
        | vw o' => exact absurd rfl (nv o')
      · rw [upF_ne e2] at hb
        exact re.dis j k n ⟨o, h1⟩ ⟨s, h2⟩ a ha hb
  st := re.st
  ow := fun a ⟨j, ⟨o, h⟩, ha⟩ => by
    rcases set_get h with ⟨e, e1⟩ | ⟨e, h⟩
    · cases e1
      subst e
      rw [upF_same] at ha
      exact fo o rfl a ha
    · rw [upF_ne e] at ha
      exact re.ow a ⟨j, ⟨o, h⟩, ha⟩
  t0 := re.t0
  pin := fun j hj => by
    have n : i ≠ j := fun e => by rw [← e, hp] at hj; cases hj
    rw [List.getElem?_set_ne n]
    exact re.pin j hj
  len := by rw [List.length_set, List.length_set]; exact re.len
  hx := re.hx
end

/-! ### argument lists -/
/-- the arguments: what is owned of a passing one stands apart -/
structure ArgR (G : Gx) (σ : L2.St) (T0 : Addr → Prop) (H0 : Hp) (env0 : Env) (F0 : Nat → List Addr) (T : Addr → Prop) (H : Hp) (env : Env) (F : Nat → List Addr) (as : List Ag) (vs : List V) (Fa : Nat → List Addr) : Prop where
  len : vs.length = as.length
  val : ∀ (j : Nat) (s : Sl), as[j]? = some (Ag.v s) → ∃ v, vs[j]? = some v ∧ SlR G T H s v (Fa j) ∧ ∀ o, s ≠ .vw o
  slt : ∀ (j i : Nat) (b : Bool), as[j]? = some (Ag.slot i b) → ∃ v, σ[i]? = some (some v) ∧ vs[j]? = some v
  dis : ∀ (j : Nat) (o : O), as[j]? = some (Ag.v (.own o)) → (∀ i, IsS env i → ∀ a ∈ Fa j, a ∉ F i) ∧ ∀ (k : Nat) (s : Sl), k ≠ j → as[k]? = some (Ag.v s) → ∀ a ∈ Fa j, a ∉ Fa k
  from_ : ∀ (j : Nat) (o : O), as[j]? = some (Ag.v (.own o)) → ∀ a ∈ Fa j, OwnP env0 F0 a ∨ H0 a = none
def tWA (G : Gx) (w : WA) : TA := fun σ H Q => ∃ T env F, RE G T H σ env F ∧ w env fun as env' => ∀ vs T' H' F' Fa, Att G σ T H env F T' H' env' F' → ArgR G σ T H env F T' H' env' F' as vs Fa → Q vs H'
structure GA (X : Cx) (G : Gx) (es : List Expr) (w : WA) : Prop where
  pa : PA X es (tWA G w)
  mono : MonoA w
def waNil : WA := fun env Q => Q [] env
def waCons (w : WE) (wr : WA) : WA := fun env Q => w env fun r e => (∀ o, r ≠ .vw o) ∧ wr e fun as e2 => Q (.v r :: as) e2
def waSlot (i : Nat) (own : Bool) (wr : WA) : WA := fun env Q => (∃ s, env[i]? = some (some s)) ∧ wr env fun as e2 => Q (.slot i own :: as) e2
section
variable {X : Cx} {G : Gx} {e : Expr} {es : List Expr} {w : WE} {wr : WA}
theorem att_out {T1 T2 : Addr → Prop} {H1 H2 : Hp} {σ : L2.St} {env1 env2 : Env} {F1 F2 : Nat → List Addr} {fr : List Addr} (t : Trk T1 H1) (b : Att G σ T1 H1 env1 F1 T2 H2 env2 F2)
    (tr : ∀ x ∈ fr, T1 x) (n : ∀ i, IsS env1 i → ∀ x ∈ fr, x ∉ F1 i) : (∀ i, IsS env2 i → ∀ x ∈ fr, x ∉ F2 i) := fun i ⟨s, hi⟩ x hx hF => by
  cases s with
  | f d =>
    obtain ⟨v, _, _, e⟩ := b.re.slot i _ hi
    rw [e] at hF
    cases hF
  | own o =>
    rcases b.own x ⟨i, ⟨o, hi⟩, hF⟩ with ⟨j, ⟨o', hj⟩, hF1⟩ | z
    · exact n j ⟨_, hj⟩ x hx hF1
    · exact t x (tr x hx) z
  | vw o =>
    obtain ⟨h1, e⟩ := b.vw i o hi
    rw [e] at hF
    exact n i ⟨_, h1⟩ x hx hF
theorem ga_nil : GA X G [] waNil := by
  refine ⟨pa_imp pa_nil fun σ H Q ⟨T, env, F, r, q⟩ => ?_, fun env Q Q' i q => i _ _ q⟩
  exact q [] T H F (fun _ => []) (.refl r) ⟨rfl, fun _ _ h => (by cases h), fun _ _ _ h => (by cases h), fun _ _ h => (by cases h), fun _ _ h => (by cases h)⟩
theorem tc_cons {σ : L2.St} {H : Hp} {Q : List V → Hp → Prop} (hm : MonoE w) (hn : MonoA wr) (h : tWA G (waCons w wr) σ H Q) : tCons (tW G w) (tWA G wr) σ H Q := by
  obtain ⟨T, env, F, r, q⟩ := h
  refine ⟨T, env, F, r, hm env _ _ (fun s e ⟨nv, q⟩ x T1 H1 F1 f1 a1 z1 => ?_) q⟩
  refine ⟨T1, e, F1, a1.re, hn e _ _ (fun as e2 q vs T2 H2 F2 Fa a2 z2 => ?_) q⟩
  have sub1 := z1.rel.sub
  have f1e : (∀ o, s ≠ .own o) → f1 = [] := fun n => by
    cases s with
    | f d => exact z1.rel.2
    | own o => exact absurd rfl (n o)
    | vw o => exact absurd rfl (nv o)
  have nP : ∀ x ∈ f1, ¬ OwnP e F1 x := fun y hy ⟨i, ⟨o, hi⟩, hF⟩ => by
    cases s with
    | f d => rw [z1.rel.2] at hy; cases hy
    | own o' => exact z1.dis o' rfl i ⟨_, hi⟩ y hy hF
    | vw o' => exact nv o' rfl
  have nA : ∀ k s', as[k]? = some (Ag.v s') → ∀ y ∈ f1, y ∉ Fa k := fun k s' hk y hy hF => by
    cases s' with
    | f d =>
      obtain ⟨v, _, z, _⟩ := z2.val k _ hk
      rw [z.2] at hF
      cases hF
    | vw o =>
      obtain ⟨v, _, _, n⟩ := z2.val k _ hk
      exact n o rfl
    | own o =>
      rcases z2.from_ k o hk y hF with h | h
      · exact nP y hy h
      · exact a1.re.trk y (sub1 y hy) h
  refine q (x :: vs) T2 H2 F2 (fun j => match j with | 0 => f1 | j + 1 => Fa j) (a1.trans r.trk a2) ⟨by simp [z2.len], fun j s' hj => ?_, fun j i b hj => ?_, fun j o hj => ?_, fun j o hj => ?_⟩
  · cases j with
    | zero =>
      cases hj
      exact ⟨x, rfl, z1.rel.chg a2.chg a1.re.sub nP, nv⟩
    | succ j => exact z2.val j s' (by simpa using hj)
  · cases j with
    | zero => cases hj
    | succ j => exact z2.slt j i b (by simpa using hj)
  · cases j with
    | zero =>
      cases hj
      refine ⟨att_out a1.re.trk a2 sub1 (z1.dis o rfl), fun k s' nk hk y hy => ?_⟩
      cases k with
      | zero => exact absurd rfl nk
      | succ k => exact nA k s' (by simpa using hk) y hy
    | succ j =>
      obtain ⟨d1, d2⟩ := z2.dis j o (by simpa using hj)
      refine ⟨d1, fun k s' nk hk y hy => ?_⟩
      cases k with
      | zero =>
        cases hk
        exact fun h => nA j _ (by simpa using hj) y h hy
      | succ k => exact d2 k s' (fun e => nk (by rw [e])) (by simpa using hk) y hy
  · cases j with
    | zero => cases hj; exact z1.from_ o rfl
    | succ j =>
      intro y hy
      rcases z2.from_ j o (by simpa using hj) y hy with h | h
      · exact a1.own y h
      · refine .inr ?_
        cases e : H y with
        | none => rfl
        | some u => exact absurd h (a1.chg.dom y (by rw [e]; exact nofun))
theorem ga_cons (ha : GE X G e w) (hr : GA X G es wr) (hs : starEach (e :: es) X.env = (false, eval e X.env) :: starEach es X.env := by rfl) : GA X G (e :: es) (waCons w wr) :=
  ⟨pa_imp (pa_cons ha.pe hr.pa hs) fun σ H Q h => tc_cons ha.mono hr.mono h, fun env Q Q' i q => ha.mono env _ _ (fun s e ⟨nv, q⟩ => ⟨nv, hr.mono e _ _ (fun as e2 q => i _ _ q) q⟩) q⟩
/-- a name that is handed on -/
theorem tc_slot {i : Nat} {own : Bool} {σ : L2.St} {H : Hp} {Q : List V → Hp → Prop} (hn : MonoA wr) (h : tWA G (waSlot i own wr) σ H Q) : tCons (tVar i) (tWA G wr) σ H Q := by
  obtain ⟨T, env, F, r, ⟨s, hs⟩, q⟩ := h
  obtain ⟨x, hx, _⟩ := r.slot i s hs
  refine ⟨x, hx, T, env, F, r, hn env _ _ (fun as e2 q vs T2 H2 F2 Fa a2 z2 => ?_) q⟩
  refine q (x :: vs) T2 H2 F2 (fun j => match j with | 0 => [] | j + 1 => Fa j) a2 ⟨by simp [z2.len], fun j s' hj => ?_, fun j i b hj => ?_, fun j o hj => ?_, fun j o hj => ?_⟩
  · cases j with
    | zero => cases hj
    | succ j => exact z2.val j s' (by simpa using hj)
  · cases j with
    | zero => cases hj; exact ⟨x, hx, rfl⟩
    | succ j => exact z2.slt j i b (by simpa using hj)
  · cases j with
    | zero => cases hj
    | succ j =>
      obtain ⟨d1, d2⟩ := z2.dis j o (by simpa using hj)
      refine ⟨d1, fun k s' nk hk y hy => ?_⟩
      cases k with
      | zero => cases hk
      | succ k => exact d2 k s' (fun e => nk (by rw [e])) (by simpa using hk) y hy
  · cases j with
    | zero => cases hj
    | succ j => exact z2.from_ j o (by simpa using hj)
theorem ga_slot {i : Nat} {own : Bool} (hv : PE X e (tVar i)) (hr : GA X G es wr) (hs : starEach (e :: es) X.env = (false, eval e X.env) :: starEach es X.env := by rfl) : GA X G (e :: es) (waSlot i own wr) :=
  ⟨pa_imp (pa_cons hv hr.pa hs) fun σ H Q h => tc_slot hr.mono h, fun env Q Q' i ⟨h, q⟩ => ⟨h, hr.mono _ _ _ (fun as e2 q => i _ _ q) q⟩⟩
/-! ### displays -/
def argsD : List Ag → Option (List D)
  | [] => some []
  | .v (.f d) :: as => (argsD as).map (d :: ·)
  | _ :: _ => none
theorem args_fz {σ : L2.St} {T0 T : Addr → Prop} {H0 H : Hp} {env0 env : Env} {F0 F : Nat → List Addr} {as : List Ag} {vs : List V} {Fa : Nat → List Addr} {ds : List D} (z : ArgR G σ T0 H0 env0 F0 T H env F as vs Fa) (h : argsD as = some ds) : FzL G.K (hid T H) vs ds := by
  have key : ∀ (as : List Ag) (vs : List V) (ds : List D), vs.length = as.length → (∀ (j : Nat) (s : Sl), as[j]? = some (Ag.v s) → ∃ v fr, vs[j]? = some v ∧ SlR G T H s v fr) → argsD as = some ds → FzL G.K (hid T H) vs ds := by
    intro as
    induction as with
    | nil =>
      intro vs ds hl _ h
      cases h
      cases vs with
      | nil => exact .nil
      | cons _ _ => cases hl
    | cons a as ih =>
      intro vs ds hl hv h
      cases vs with
      | nil => cases hl
      | cons v vs =>
        cases a with
        | slot i b => cases h
        | v s =>
          cases s with
          | own o => cases h
          | vw o => cases h
          | f d =>
            have h : (argsD as).map (d :: ·) = some ds := h
            cases e : argsD as with
            | none => rw [e] at h; cases h
            | some es =>
              rw [e] at h
              cases h
              obtain ⟨v', fr, e1, e2⟩ := hv 0 _ rfl
              cases e1
              refine .cons e2.1 (ih vs es (by simpa using hl) (fun j s hj => ?_) e)
              obtain ⟨v', fr, e1, e2⟩ := hv (j + 1) s (by simpa using hj)
              exact ⟨v', fr, by simpa using e1, e2⟩
  exact key as vs ds z.len (fun j s hj => let ⟨v, a, b, _⟩ := z.val j s hj; ⟨v, _, a, b⟩) h
def wTup (wa : WA) : WE := fun env Q => wa env fun as e => ∃ ds, argsD as = some ds ∧ ds.length ≤ sizeLine ∧ Q (.f (.tup ds)) e
def wLst (wa : WA) : WE := fun env Q => wa env fun as e => ∃ ds, argsD as = some ds ∧ ds.length ≤ sizeLine ∧ Q (.f (.lst ds)) e
/-- a list that is owned -/
def wLstO (wa : WA) : WE := fun env Q => wa env fun as e => ∃ ds, argsD as = some ds ∧ ds.length ≤ sizeLine ∧ Q (.own (.lst ds)) e
variable {wa : WA}
theorem nT {T : Addr → Prop} {H : Hp} {p : Addr} (t : Trk T H) (h : H p = none) : ¬ T p := fun z => t p z h
theorem ge_tup {x1 : Nat} {pos : Pos} (ha : GA X G es wa) : GE X G (.Tuple es x1 pos) (wTup wa) := by
  refine ⟨pe_imp (pe_tup ha.pa) fun σ H Q ⟨T, env, F, r, q⟩ => ⟨T, env, F, r, ha.mono env _ _ (fun as e ⟨ds, hd, hl, q⟩ vs T1 H1 F1 Fa a1 z1 => ?_) q⟩, fun env Q Q' i q => ha.mono env _ _ (fun as e ⟨ds, hd, hl, q⟩ => ⟨ds, hd, hl, i _ _ q⟩) q⟩
  have fz := args_fz z1 hd
  refine ⟨by rw [fz.length]; exact hl, fun p np => ?_⟩
  have ex : Ex H1 (upd H1 p (.tup vs)) := Ex.new np
  exact q _ T1 _ F1 [] (a1.trans r.trk (Att.ex a1.re ex)) (res_f (.tup (SqT.of (hid_of upd_same (nT a1.re.trk np))) (fz.ex (hid_mono ex))))
theorem ge_lst {pos : Pos} (ha : GA X G es wa) : GE X G (.List es pos) (wLst wa) := by
  refine ⟨pe_imp (pe_lst ha.pa) fun σ H Q ⟨T, env, F, r, q⟩ => ⟨T, env, F, r, ha.mono env _ _ (fun as e ⟨ds, hd, hl, q⟩ vs T1 H1 F1 Fa a1 z1 => ?_) q⟩, fun env Q Q' i q => ha.mono env _ _ (fun as e ⟨ds, hd, hl, q⟩ => ⟨ds, hd, hl, i _ _ q⟩) q⟩
  have fz := args_fz z1 hd
  refine ⟨by rw [fz.length]; exact hl, fun p np => ?_⟩
  have ex : Ex H1 (upd H1 p (.lst vs)) := Ex.new np
  exact q _ T1 _ F1 [] (a1.trans r.trk (Att.ex a1.re ex)) (res_f (.lst (SqL.of (hid_of upd_same (nT a1.re.trk np))) (fz.ex (hid_mono ex))))
/-- a new thing that is owned -/
theorem att_new {T : Addr → Prop} {H : Hp} {σ : L2.St} {env : Env} {F : Nat → List Addr} {p : Addr} {o : HO} (r : RE G T H σ env F) (np : H p = none) : Att G σ T H env F (fun a => T a ∨ a = p) (upd H p o) env F := by
  have c : Chg T H (fun _ => False) (fun a => T a ∨ a = p) (upd H p o) := Chg.newOwn r.trk np
  exact ⟨c.weak fun _ h => h.elim, r.chg c (fun _ h => h.elim) (fun _ h => h.elim) fun _ _ _ _ h => h, fun _ h => .inl h, fun _ _ h => ⟨h, rfl⟩⟩
theorem own_new {T : Addr → Prop} {H : Hp} {σ : L2.St} {env : Env} {F : Nat → List Addr} {p : Addr} {ob : HO} {o : O} {v : V} (r : RE G T H σ env F) (np : H p = none) (ow : Ow G.K (fun a => T a ∨ a = p) (upd H p ob) o v [p]) :
    Res G T H env F (fun a => T a ∨ a = p) (upd H p ob) env F (.own o) v [p] :=
  ⟨ow, fun _ _ i ⟨s, hs⟩ a ha hF => by
    rw [List.mem_singleton.mp ha] at hF
    obtain ⟨v, _, z⟩ := r.slot i s hs
    exact r.trk p (z.sub p hF) np, fun _ _ a ha => by rw [List.mem_singleton.mp ha]; exact .inr np⟩
theorem hid_new {T : Addr → Prop} {H : Hp} {p : Addr} {o : HO} (np : H p = none) : Ex (hid T H) (hid (fun a => T a ∨ a = p) (upd H p o)) := fun a u h => by
  obtain ⟨h1, h2⟩ := hid_some h
  have n : a ≠ p := ne_of_none h1 np
  exact hid_of (by rw [upd_ne n]; exact h1) fun z => z.elim h2 n
theorem ge_lstO {pos : Pos} (ha : GA X G es wa) : GE X G (.List es pos) (wLstO wa) := by
  refine ⟨pe_imp (pe_lst ha.pa) fun σ H Q ⟨T, env, F, r, q⟩ => ⟨T, env, F, r, ha.mono env _ _ (fun as e ⟨ds, hd, hl, q⟩ vs T1 H1 F1 Fa a1 z1 => ?_) q⟩, fun env Q Q' i q => ha.mono env _ _ (fun as e ⟨ds, hd, hl, q⟩ => ⟨ds, hd, hl, i _ _ q⟩) q⟩
  have fz := args_fz z1 hd
  refine ⟨by rw [fz.length]; exact hl, fun p np => ?_⟩
  exact q _ _ _ F1 [p] (a1.trans r.trk (att_new a1.re np)) (res_trans r.trk a1 (own_new a1.re np (.lst (.inr rfl) upd_same (fz.ex (hid_new np)))))
end
end Fx

namespace Fx
open PySem PySem.Spec PyProof.Rows L2 Evl Lk

/-- a result that is handed out of the frame -/
structure ResS (G : Gx) (T : Addr → Prop) (H : Hp) (env : Env) (F : Nat → List Addr) (r : Sl) (v : V) (fr : List Addr) : Prop where
  rel : SlR G T H r v fr
  nv : ∀ o, r ≠ .vw o
  dis : ∀ o, r = .own o → ∀ i, IsS env i → ∀ a ∈ fr, a ∉ F i
  from_ : ∀ o, r = .own o → ∀ a ∈ fr, G.P0 a ∨ G.H0 a = none
/-- what is wanted, over trees; h0: what is not owned as the statement begins -/
def toD (G : Gx) (h0 : Hp) (D : Ends) : WEnds where
  nx := fun env => ∀ σ T H F, RE G T H σ env F → Ex h0 (hid T H) → D.nx σ H
  rt := fun r env => ∀ v σ T H F fr, RE G T H σ env F → ResS G T H env F r v fr → D.rt v H
  bk := fun env => ∀ σ T H F, RE G T H σ env F → Ex h0 (hid T H) → D.bk σ H
  ct := fun env => ∀ σ T H F, RE G T H σ env F → Ex h0 (hid T H) → D.ct σ H
theorem toD_le {G : Gx} {h0 h1 : Hp} {D : Ends} (e : Ex h0 h1) : (toD G h0 D).Le (toD G h1 D) :=
  ⟨fun env q σ T H F r x => q σ T H F r (e.trans x), fun _ _ q => q, fun env q σ T H F r x => q σ T H F r (e.trans x), fun env q σ T H F r x => q σ T H F r (e.trans x)⟩
def tWS (G : Gx) (w : WS) : TS := fun D σ H => ∃ T env F, RE G T H σ env F ∧ w (toD G (hid T H) D) env
structure GS (X : Cx) (G : Gx) (st : Stmt) (w : WS) : Prop where
  ps : PS X st (tWS G w)
  mono : MonoS w
structure GSs (X : Cx) (G : Gx) (st : List Stmt) (w : WS) : Prop where
  pss : PSs X st (tWS G w)
  mono : MonoS w
def wNext : WS := fun D env => D.nx env
def wSeq (w1 w2 : WS) : WS := fun D env => w1 { D with nx := fun e => w2 D e } env
def wRet (w : WE) : WS := fun D env => w env fun r e => (∀ o, r ≠ .vw o) ∧ D.rt r e
def wIfS (t : WT) (w1 w2 : WS) : WS := fun D env => t env fun b e => if b = true then w1 D e else w2 D e
def wSet (i : Nat) (w : WE) : WS := fun D env => w env fun r e => (∀ o, r ≠ .vw o) ∧ i < e.length ∧ D.nx (e.set i (some r))
abbrev WG := D → Env → (Env → Prop) → Prop
abbrev WGs := List D → Env → (Env → Prop) → Prop
def MonoG (g : WG) : Prop := ∀ d env (Q Q' : Env → Prop), (∀ e, Q e → Q' e) → g d env Q → g d env Q'
def MonoGs (g : WGs) : Prop := ∀ d env (Q Q' : Env → Prop), (∀ e, Q e → Q' e) → g d env Q → g d env Q'
def tWG (G : Gx) (g : WG) : TG := fun v σ H Q => ∃ T env F d, RE G T H σ env F ∧ Fz G.K (hid T H) v d ∧ g d env fun env' => ∀ σ' T' H' F', RE G T' H' σ' env' F' → Ex (hid T H) (hid T' H') → Q σ' H'
def tWGs (G : Gx) (g : WGs) : TGs := fun vs σ H Q => ∃ T env F ds, RE G T H σ env F ∧ FzL G.K (hid T H) vs ds ∧ g ds env fun env' => ∀ σ' T' H' F', RE G T' H' σ' env' F' → Ex (hid T H) (hid T' H') → Q σ' H'
structure GG (X : Cx) (G : Gx) (tg : Expr) (g : WG) : Prop where
  pg : PG X tg (tWG G g)
  mono : MonoG g
  keep : ∀ d env Q, g d env Q → g d env Q
def gn (i : Nat) : WG := fun d env Q => i < env.length ∧ Q (env.set i (some (.f d)))
def gsNil : WGs := fun ds env Q => ds = [] ∧ Q env
def gsCons (g : WG) (u : WGs) : WGs := fun ds env Q => ∃ d r, ds = d :: r ∧ g d env fun e => u r e Q
def gTp (n : Nat) (u : WGs) : WG := fun d env Q => ∃ ds, d = .tup ds ∧ ds.length = n ∧ u ds env Q
def wAsg (w : WE) (g : WG) : WS := fun D env => w env fun r e => ∃ d, r = .f d ∧ g d e D.nx
section
variable {X : Cx} {G : Gx} {st : Stmt} {rest : List Stmt} {w w1 w2 : WS} {we : WE} {t : WT} {e : Expr} {pos : Pos}
theorem gss_nil : GSs X G [] wNext := ⟨pss_imp pss_nil fun D σ H ⟨T, env, F, r, q⟩ => q σ T H F r (Ex.refl _), fun _ _ _ l q => l.nx _ q⟩
theorem gss_one (h : GS X G st w) : GSs X G [st] w := ⟨pss_one h.ps, h.mono⟩
theorem gss_cons (h : GS X G st w1) (h2 : GSs X G rest w2) : GSs X G (st :: rest) (wSeq w1 w2) := by
  refine ⟨pss_imp (pss_cons h.ps h2.pss) fun D σ H ⟨T, env, F, r, q⟩ => ⟨T, env, F, r, h.mono { toD G (hid T H) D with nx := fun e => w2 (toD G (hid T H) D) e } _ env ⟨fun e q σ' T' H' F' r' x => ⟨T', e, F', r', h2.mono _ _ _ (toD_le x) q⟩, fun _ _ q => q, fun _ q => q, fun _ q => q⟩ q⟩, fun D D' env l q => h.mono { D with nx := fun e => w2 D e } _ env ⟨fun e q => h2.mono D D' e l q, l.rt, l.bk, l.ct⟩ q⟩
theorem resS {T T1 : Addr → Prop} {H H1 : Hp} {σ : L2.St} {env env1 : Env} {F F1 : Nat → List Addr} {s : Sl} {v : V} {fr : List Addr} (r : RE G T H σ env F) (z : Res G T H env F T1 H1 env1 F1 s v fr) (nv : ∀ o, s ≠ .vw o) : ResS G T1 H1 env1 F1 s v fr :=
  ⟨z.rel, nv, z.dis, fun o e a ha => by
    rcases z.from_ o e a ha with q | q
    · exact r.ow a q
    · refine .inr ?_
      cases e : G.H0 a with
      | none => rfl
      | some u => exact absurd q (r.st.dom a (by rw [e]; exact nofun))⟩
theorem gs_ret (h : GE X G e we) : GS X G (.Return (some e) pos) (wRet we) := by
  refine ⟨ps_imp (ps_ret h.pe) fun D σ H ⟨T, env, F, r, q⟩ => ⟨T, env, F, r, h.mono _ _ _ (fun s e ⟨nv, q⟩ v T' H' F' fr a z => ?_) q⟩, fun D D' env l q => h.mono _ _ _ (fun s e ⟨nv, q⟩ => ⟨nv, l.rt _ _ q⟩) q⟩
  exact q v σ T' H' F' fr a.re (resS r z nv)
theorem gs_if {a b : List Stmt} {c : Expr} (hc : GT X G c t) (ha : GSs X G a w1) (hb : GSs X G b w2) : GS X G (.If c a b pos) (wIfS t w1 w2) := by
  refine ⟨ps_imp (ps_if hc.pt ha.pss hb.pss) fun D σ H ⟨T, env, F, r, q⟩ => ⟨T, env, F, r, hc.mono _ _ _ (fun k e q T' H' F' a => ?_) q⟩, fun D D' env l q => hc.mono _ _ _ (fun k e q => ?_) q⟩
  · cases k with
    | true => exact ite_tt ⟨T', e, F', a.re, ha.mono _ _ _ (toD_le (a.chg.hid r.sub)) q⟩
    | false => exact ite_ff ⟨T', e, F', a.re, hb.mono _ _ _ (toD_le (a.chg.hid r.sub)) q⟩
  · cases k with
    | true => exact ha.mono _ _ _ l q
    | false => exact hb.mono _ _ _ l q
theorem gs_set {i : Nat} (h : PS X st (tAsg (tW G we) (gName i))) (m : MonoE we) (hp : G.prot i = false) : GS X G st (wSet i we) := by
  refine ⟨ps_imp h fun D σ H ⟨T, env, F, r, q⟩ => ⟨T, env, F, r, m _ _ _ (fun s e ⟨nv, hi, q⟩ v T' H' F' fr a z => ?_) q⟩, fun D D' env l q => m _ _ _ (fun s e ⟨nv, hi, q⟩ => ⟨nv, hi, l.nx _ q⟩) q⟩
  have zs := resS r z nv
  exact q _ T' H' _ (a.re.store i (by rw [← a.re.len]; exact hi) hp nv z.rel z.dis zs.from_) (a.chg.hid r.sub)
/-! targets -/
theorem gg_name {i : Nat} (h : PG X e (gName i)) (hp : G.prot i = false) : GG X G e (gn i) := by
  refine ⟨⟨fun pins s σ H v u Q I rv ⟨T, env, F, d, r, fz, hi, q⟩ => h.run pins s σ H v u Q I rv ?_⟩, fun d env Q Q' i ⟨hi, q⟩ => ⟨hi, i _ q⟩, fun _ _ _ q => q⟩
  exact q _ T H _ (r.store i (by rw [← r.len]; exact hi) hp nofun (fr := []) ⟨fz, rfl⟩ nofun nofun) (Ex.refl _)
structure GGs (X : Cx) (G : Gx) (ts : List Expr) (g : WGs) : Prop where
  pg : PGs X ts (tWGs G g)
  mono : MonoGs g
theorem ggs_nil : GGs X G [] gsNil := by
  refine ⟨⟨fun pins s σ H vs us Q I rv ⟨T, env, F, ds, r, fz, hd, q⟩ => pgs_nil.run pins s σ H vs us Q I rv ?_⟩, fun d env Q Q' i ⟨hi, q⟩ => ⟨hi, i _ q⟩⟩
  subst hd
  cases fz
  exact ⟨rfl, q σ T H F r (Ex.refl _)⟩
theorem ggs_cons {es : List Expr} {i : Nat} {u : WGs} (h : PG X e (gName i)) (hp : G.prot i = false) (h2 : GGs X G es u) (hs : (assignEach (e :: es) X.env).map (·.2) = assign e X.env :: (assignEach es X.env).map (·.2) := by rfl) : GGs X G (e :: es) (gsCons (gn i) u) := by
  refine ⟨⟨fun pins s σ H vs us Q I rv ⟨T, env, F, ds, r, fz, d, dr, hd, hi, q⟩ => (pgs_cons h h2.pg hs).run pins s σ H vs us Q I rv ?_⟩, fun d env Q Q' i ⟨d1, dr, hd, hi, q⟩ => ⟨d1, dr, hd, hi, h2.mono _ _ _ _ i q⟩⟩
  subst hd
  cases fz with
  | cons f1 f2 => exact ⟨_, _, rfl, T, _, _, dr, r.store (r := .f _) i (by rw [← r.len]; exact hi) hp nofun (fr := []) ⟨f1, rfl⟩ nofun nofun, f2, q⟩
theorem gg_tup {es : List Expr} {k n : Nat} {u : WGs} (hc : X.calm = true) (h : GGs X G es u) (hK : X.K = G.K := by rfl) (hn : (assignEach es X.env).length = n := by rfl) (hst : (assignEach es X.env).findIdx? (·.1) = none := by rfl) : GG X G (.Tuple es k pos) (gTp n u) := by
  refine ⟨⟨fun pins s σ H v uu Q I rv ⟨T, env, F, d, r, fz, ds, hd, hl, q⟩ => (pg_tup hc h.pg hn hst).run pins s σ H v uu Q I rv ?_⟩, fun d env Q Q' i ⟨ds, hd, hl, q⟩ => ⟨ds, hd, hl, h.mono _ _ _ _ i q⟩, fun _ _ _ q => q⟩
  subst hd
  cases fz with
  | tup a b => exact ⟨_, _, rfl, by rw [hK]; exact ex_t hid_ex a, b.length.trans hl, T, env, F, ds, r, b, q⟩
theorem gs_asg {tg : Expr} {g : WG} (he : GE X G e we) (hg : GG X G tg g) (hs : swapsWithSole [tg] e pos.line X.env = pure false := by rfl) (hw : swappedStores [tg] e X.env = pure none := by rfl)
    (h1 : (assignEach [tg] X.env).map (·.2) = [assign tg X.env] := by rfl) : GS X G (.Assign [tg] e pos) (wAsg we g) := by
  refine ⟨ps_imp (ps_asg he.pe hg.pg hs hw h1) fun D σ H ⟨T, env, F, r, q⟩ => ⟨T, env, F, r, he.mono _ _ _ (fun s e ⟨d, hd, q⟩ v T' H' F' fr a z => ?_) q⟩, fun D D' env l q => he.mono _ _ _ (fun s e ⟨d, hd, q⟩ => ⟨d, hd, hg.mono _ _ _ _ l.nx q⟩) q⟩
  subst hd
  exact ⟨T', e, F', d, a.re, z.rel.1, hg.mono _ _ _ _ (fun e q σ' T2 H2 F2 r2 x => q σ' T2 H2 F2 r2 ((a.chg.hid r.sub).trans x)) q⟩
/-! ### an owned list at a slot -/
theorem own_lst {T : Addr → Prop} {H : Hp} {σ : L2.St} {env : Env} {F : Nat → List Addr} {k : Nat} {ds : List D} (r : RE G T H σ env F) (hk : env[k]? = some (some (.own (.lst ds)))) :
    ∃ p vs, σ[k]? = some (some (.ref p)) ∧ H p = some (.lst vs) ∧ FzL G.K (hid T H) vs ds ∧
      ∀ vs' ds', FzL G.K (hid T H) vs' ds' → Att G σ T H env F T (upd H p (.lst vs')) (env.set k (some (.own (.lst ds')))) F := by
  obtain ⟨v, h1, h2⟩ := r.slot k _ hk
  have h2 : Ow G.K T H (.lst ds) v (F k) := h2
  generalize hF : F k = fk at h2
  cases h2 with
  | lst a b c =>
    rename_i p vs
    refine ⟨p, vs, h1, b, c, fun vs' ds' fz => ?_⟩
    have hkl : k < env.length := (List.getElem?_eq_some_iff.mp hk).1
    have hP : OwnP env F p := ⟨k, ⟨_, hk⟩, by rw [hF]; exact List.mem_singleton.mpr rfl⟩
    have ch1 : Chg T H (fun x => x = p) T (upd H p (.lst vs')) := Chg.write r.trk rfl
    have ch : Chg T H (OwnP env F) T (upd H p (.lst vs')) := Chg.write r.trk hP
    have he : Ex (hid T H) (hid T (upd H p (.lst vs'))) := ch.hid r.sub
    have ownb : ∀ j, IsOwn (env.set k (some (.own (.lst ds')))) j → IsOwn env j := fun j ⟨o, h⟩ => by
      rcases set_get h with ⟨e, _⟩ | ⟨_, h⟩
      · rw [e]; exact ⟨_, hk⟩
      · exact ⟨o, h⟩
    have isb : ∀ j, IsS (env.set k (some (.own (.lst ds')))) j → IsS env j := fun j ⟨o, h⟩ => by
      rcases set_get h with ⟨e, _⟩ | ⟨_, h⟩
      · rw [e]; exact ⟨_, hk⟩
      · exact ⟨o, h⟩
    refine ⟨ch, ⟨ch.tr, fun q hq => ?_, fun j s hj => ?_, fun i j n h1 h2 => r.dis i j n (ownb i h1) (isb j h2), r.st.trans r.t0 ch r.ow, fun x ⟨j, hj, hx⟩ => r.ow x ⟨j, ownb j hj, hx⟩, r.t0, r.pin, by rw [List.length_set]; exact r.len, r.hx.trans he⟩, fun x ⟨j, hj, hx⟩ => .inl ⟨j, ownb j hj, hx⟩, fun j o h => ?_⟩
    · obtain ⟨t1, t2⟩ := r.tab q hq
      exact ⟨by rw [upd_ne (fun e => t2 (by rw [e]; exact a))]; exact t1, t2⟩
    · rcases set_get hj with ⟨e, e1⟩ | ⟨e, hj⟩
      · cases e1
        subst e
        refine ⟨.ref p, h1, ?_⟩
        rw [hF]
        exact Ow.lst a upd_same (fz.ex he)
      · obtain ⟨v', g1, g2⟩ := r.slot j s hj
        refine ⟨v', g1, g2.chg ch1 (fun x hx => by rw [hx]; exact a) fun x hx hxp => ?_⟩
        refine r.dis k j (Ne.symm e) ⟨_, hk⟩ ⟨_, hj⟩ p (by rw [hF]; exact List.mem_singleton.mpr rfl) ?_
        rw [← hxp]
        exact hx
    · rcases set_get h with ⟨_, e⟩ | ⟨_, h⟩
      · cases e
      · exact ⟨h, rfl⟩
end
end Fx

namespace Fx
open PySem PySem.Spec PyProof.Rows L2 Evl Lk

/-! ### what is walked -/
structure ItD (K : PySem.W.Frag) (J : It) (Bs : (Addr → Prop) → Hp → Prop) (ds : List D) : Prop where
  go : ∀ i T H, Trk T H → Bs T H → i < ds.length → J.go i H ∧ ∀ v H', J.yld i H v H' → ∃ d, ds[i]? = some d ∧ Ex H H' ∧ Fz K (hid T H') v d
  stop : ∀ i T H, Bs T H → i = ds.length → J.stop i H
  keep : ∀ T H T' H', Bs T H → Ex (hid T H) (hid T' H') → Bs T' H'
abbrev WI := Env → (List D → Env → Prop) → Prop
def MonoI (w : WI) : Prop := ∀ env (Q Q' : List D → Env → Prop), (∀ r e, Q r e → Q' r e) → w env Q → w env Q'
def tWI (G : Gx) (w : WI) : TI := fun σ H R => ∃ T env F, RE G T H σ env F ∧ w env fun ds env' => ∀ J T' H' F' Bs, Att G σ T H env F T' H' env' F' → ItD G.K J Bs ds → Bs T' H' → R J H'
structure GI (X : Cx) (G : Gx) (tg iter : Expr) (w : WI) : Prop where
  pi : PI X tg iter (tWI G w)
  mono : MonoI w
section
variable {X : Cx} {G : Gx} {tg iter e : Expr} {w : WE} {wa : WA} {pos : Pos}
theorem pi_imp {t t' : TI} (h : PI X tg iter t) (i : ∀ σ H R, t' σ H R → t σ H R) : PI X tg iter t' := ⟨fun pins s σ H R I q => h.run pins s σ H R I (i σ H R q)⟩
/-- a list, a tuple, a text -/
def wiL (w : WE) : WI := fun env Q => w env fun r e => ∃ ds, r = .f (.lst ds) ∧ Q ds e
def wiT (w : WE) : WI := fun env Q => w env fun r e => ∃ ds, r = .f (.tup ds) ∧ Q ds e
def signs (x : Str) : List D := x.cps.toList.map fun c => .str ⟨#[c]⟩
def wiS (w : WE) : WI := fun env Q => w env fun r e => ∃ x, r = .f (.str x) ∧ Q (signs x) e
theorem itd_list {K : PySem.W.Frag} {a : Addr} {ds : List D} : ItD K (Itl K a) (fun T H => Fz K (hid T H) (.ref a) (.lst ds)) ds where
  go := fun i T H t h hi => by
    cases h with
    | lst l fl =>
      rename_i vs
      have hv : i < vs.length := by rw [fl.length]; exact hi
      refine ⟨⟨vs, _, ex_l hid_ex l, List.getElem?_eq_getElem hv⟩, fun v H' ⟨e, y⟩ => ?_⟩
      subst e
      exact ⟨_, List.getElem?_eq_getElem hi, Ex.refl _, fl.get (y vs (ex_l hid_ex l)) (List.getElem?_eq_getElem hi)⟩
  stop := fun i T H h hi => by
    cases h with
    | lst l fl => exact ⟨_, ex_l hid_ex l, by rw [fl.length, hi]; exact Nat.le_refl _⟩
  keep := fun T H T' H' h e => h.ex e
theorem itd_tup {K : PySem.W.Frag} {a : Addr} {ds : List D} : ItD K (Itt K a) (fun T H => Fz K (hid T H) (.ref a) (.tup ds)) ds where
  go := fun i T H t h hi => by
    cases h with
    | tup l fl =>
      rename_i vs
      have hv : i < vs.length := by rw [fl.length]; exact hi
      refine ⟨⟨vs, _, ex_t hid_ex l, List.getElem?_eq_getElem hv⟩, fun v H' ⟨e, y⟩ => ?_⟩
      subst e
      exact ⟨_, List.getElem?_eq_getElem hi, Ex.refl _, fl.get (y vs (ex_t hid_ex l)) (List.getElem?_eq_getElem hi)⟩
  stop := fun i T H h hi => by
    cases h with
    | tup l fl => exact ⟨_, ex_t hid_ex l, by rw [fl.length, hi]; exact Nat.le_refl _⟩
  keep := fun T H T' H' h e => h.ex e
theorem itd_str {K : PySem.W.Frag} {x : Str} : ItD K (Its x) (fun _ _ => True) (signs x) where
  go := fun i T H t h hi => by
    have hl : (signs x).length = x.cps.size := by unfold signs; simp
    refine ⟨(show i < x.cps.size by rw [← hl]; exact hi), fun v H' ⟨e, c, hc, ev⟩ => ?_⟩
    subst e ev
    refine ⟨.str ⟨#[c]⟩, ?_, Ex.refl _, .str _⟩
    unfold signs
    rw [List.getElem?_map, Array.getElem?_toList, hc] <;> rfl
  stop := fun i T H h hi => by
    have hl : (signs x).length = x.cps.size := by unfold signs; simp
    show x.cps.size ≤ i
    rw [hi, hl] <;> exact Nat.le_refl _
  keep := fun _ _ _ _ _ _ => trivial
theorem itd_rng {K : PySem.W.Frag} {lo : Int} {n : Nat} : ItD K (Itr lo n) (fun _ _ => True) ((List.range n).map fun k : Nat => .int (lo + (k : Int))) where
  go := fun i T H t h hi => by
    have hi' : i < n := by simpa using hi
    refine ⟨hi', fun v H' ⟨e, ev⟩ => ?_⟩
    subst e ev
    exact ⟨.int (lo + (i : Int)), by rw [List.getElem?_map, List.getElem?_range hi'] <;> rfl, Ex.refl _, .int _⟩
  stop := fun i T H h hi => by
    show n ≤ i
    rw [hi] <;> simp
  keep := fun _ _ _ _ _ _ => trivial
theorem gi_list (h : GE X G e w) (hK : X.K = G.K := by rfl) : GI X G tg e (wiL w) := by
  refine ⟨pi_imp (pi_list h.pe) fun σ H R ⟨T, env, F, r, q⟩ => ⟨T, env, F, r, h.mono _ _ _ (fun s e ⟨ds, hd, q⟩ v T' H' F' fr a z => ?_) q⟩, fun env Q Q' i q => h.mono _ _ _ (fun s e ⟨ds, hd, q⟩ => ⟨ds, hd, i _ _ q⟩) q⟩
  subst hd
  have fz := z.rel.1
  cases id fz with
  | lst l fl =>
    rw [hK]
    exact ⟨_, rfl, ⟨_, ex_l hid_ex l⟩, q _ T' H' F' _ a itd_list fz⟩
theorem gi_tup (h : GE X G e w) (hK : X.K = G.K := by rfl) : GI X G tg e (wiT w) := by
  refine ⟨pi_imp (pi_tup h.pe) fun σ H R ⟨T, env, F, r, q⟩ => ⟨T, env, F, r, h.mono _ _ _ (fun s e ⟨ds, hd, q⟩ v T' H' F' fr a z => ?_) q⟩, fun env Q Q' i q => h.mono _ _ _ (fun s e ⟨ds, hd, q⟩ => ⟨ds, hd, i _ _ q⟩) q⟩
  subst hd
  have fz := z.rel.1
  cases id fz with
  | tup l fl =>
    rw [hK]
    exact ⟨_, rfl, ⟨_, ex_t hid_ex l⟩, q _ T' H' F' _ a itd_tup fz⟩
theorem gi_str (h : GE X G e w) : GI X G tg e (wiS w) := by
  refine ⟨pi_imp (pi_str h.pe) fun σ H R ⟨T, env, F, r, q⟩ => ⟨T, env, F, r, h.mono _ _ _ (fun s e ⟨x, hd, q⟩ v T' H' F' fr a z => ?_) q⟩, fun env Q Q' i q => h.mono _ _ _ (fun s e ⟨ds, hd, q⟩ => ⟨ds, hd, i _ _ q⟩) q⟩
  subst hd
  have fz := z.rel.1
  cases fz
  exact ⟨_, rfl, q _ T' H' F' _ a itd_str trivial⟩
def wiR1 (wa : WA) : WI := fun env Q => wa env fun as e => ∃ j : Int, as = [.v (.f (.int j))] ∧ -(2 ^ 62) ≤ j ∧ j < 2 ^ 62 ∧ Q ((List.range j.toNat).map fun k : Nat => .int (0 + (k : Int))) e
def wiR2 (wa : WA) : WI := fun env Q => wa env fun as e => ∃ i j : Int, as = [.v (.f (.int i)), .v (.f (.int j))] ∧ (-(2 ^ 62) ≤ i ∧ i < 2 ^ 62 ∧ -(2 ^ 62) ≤ j ∧ j < 2 ^ 62) ∧ Q ((List.range (j - i).toNat).map fun k : Nat => .int (i + (k : Int))) e
theorem args1 {σ : L2.St} {T0 T : Addr → Prop} {H0 H : Hp} {env0 env : Env} {F0 F : Nat → List Addr} {vs : List V} {Fa : Nat → List Addr} {d : D} (z : ArgR G σ T0 H0 env0 F0 T H env F [.v (.f d)] vs Fa) : ∃ v, vs = [v] ∧ Fz G.K (hid T H) v d := by
  have fz := args_fz z (ds := [d]) rfl
  cases fz with
  | cons a b => cases b; exact ⟨_, rfl, a⟩
theorem args2 {σ : L2.St} {T0 T : Addr → Prop} {H0 H : Hp} {env0 env : Env} {F0 F : Nat → List Addr} {vs : List V} {Fa : Nat → List Addr} {d d2 : D} (z : ArgR G σ T0 H0 env0 F0 T H env F [.v (.f d), .v (.f d2)] vs Fa) : ∃ v v2, vs = [v, v2] ∧ Fz G.K (hid T H) v d ∧ Fz G.K (hid T H) v2 d2 := by
  have fz := args_fz z (ds := [d, d2]) rfl
  cases fz with
  | cons a b => cases b with
    | cons b c => cases c; exact ⟨_, _, rfl, a, b⟩
theorem gi_r1 {a : Expr} {p : Pos} (hg : Gl X "range") (hm : X.mg "range" = none) (ha : GA X G [a] wa) (hs : starEach [a] X.env = [(false, eval a X.env)] := by rfl) : GI X G tg (.Call (.Name "range" p) [a] [] pos) (wiR1 wa) := by
  refine ⟨pi_imp (pi_range1 hg hm ha.pa hs) fun σ H R ⟨T, env, F, r, q⟩ => ⟨T, env, F, r, ha.mono _ _ _ (fun as e ⟨j, hj, h1, h2, q⟩ vs T' H' F' Fa a z => ?_) q⟩, fun env Q Q' i q => ha.mono _ _ _ (fun s e ⟨j, hj, h1, h2, q⟩ => ⟨j, hj, h1, h2, i _ _ q⟩) q⟩
  subst hj
  obtain ⟨v, rfl, fz⟩ := args1 z
  cases fz
  exact ⟨j, rfl, h1, h2, q _ T' H' F' _ a itd_rng trivial⟩
theorem gi_r2 {a b : Expr} {p : Pos} (hg : Gl X "range") (hm : X.mg "range" = none) (ha : GA X G [a, b] wa) (hs : starEach [a, b] X.env = [(false, eval a X.env), (false, eval b X.env)] := by rfl) (hs2 : starEach [b] X.env = [(false, eval b X.env)] := by rfl) : GI X G tg (.Call (.Name "range" p) [a, b] [] pos) (wiR2 wa) := by
  refine ⟨pi_imp (pi_range2 hg hm ha.pa hs hs2) fun σ H R ⟨T, env, F, r, q⟩ => ⟨T, env, F, r, ha.mono _ _ _ (fun as e ⟨i, j, hj, h1, q⟩ vs T' H' F' Fa a z => ?_) q⟩, fun env Q Q' ii q => ha.mono _ _ _ (fun s e ⟨i, j, hj, h1, q⟩ => ⟨i, j, hj, h1, ii _ _ q⟩) q⟩
  subst hj
  obtain ⟨v, v2, rfl, fz, fz2⟩ := args2 z
  cases fz
  cases fz2
  exact ⟨i, j, rfl, h1, q _ T' H' F' _ a itd_rng trivial⟩
/-! ### for -/
def wFor (wi : WI) (g : WG) (w : WS) : WS := fun D env => wi env fun ds e0 => ∃ J : Nat → Env → Prop, J 0 e0 ∧ (∀ i d e, ds[i]? = some d → J i e → g d e fun e' => w { nx := J (i + 1), ct := J (i + 1), bk := D.nx, rt := D.rt } e') ∧ ∀ e, J ds.length e → D.nx e
theorem gs_for {wi : WI} {g : WG} {ws : WS} {body : List Stmt} (hp : PassesOwn (model X.prog X.w) X.A X.env X.xe) (hc : X.calm = true) (hi : GI X G tg iter wi) (hg : GG X G tg g) (hb : GSs X G body ws) (hs : ∀ x, foldedSetIterable iter X.env x = pure x := by intro _; rfl) : GS X G (.For tg iter body [] pos) (wFor wi g ws) := by
  refine ⟨ps_imp (ps_for hp hc hi.pi hg.pg hb.pss hs) fun D σ H ⟨T, env, F, r, q⟩ => ⟨T, env, F, r, hi.mono _ _ _ (fun ds e0 ⟨J, j0, js, jd⟩ It T1 H1 F1 Bs a it b0 => ?_) q⟩, fun D D' env l q => hi.mono _ _ _ (fun ds e0 ⟨J, j0, js, jd⟩ => ⟨J, j0, fun i d e hd hj => hg.mono _ _ _ _ (fun e' q => hb.mono { nx := J (i + 1), ct := J (i + 1), bk := D.nx, rt := D.rt } _ _ ⟨fun _ q => q, fun s e q => l.rt s e q, fun e q => l.nx e q, fun _ q => q⟩ q) (js i d e hd hj), fun e hj => l.nx e (jd e hj)⟩) q⟩
  refine ⟨fun i m σ H => m = ds.length - i ∧ i ≤ ds.length ∧ ∃ T' env' F', RE G T' H σ env' F' ∧ Bs T' H ∧ J i env' ∧ Ex (hid T1 H1) (hid T' H), ⟨_, rfl, Nat.zero_le _, T1, e0, F1, a.re, b0, j0, Ex.refl _⟩, ?_⟩
  rintro i m σ' H' ⟨rfl, hi', T', env', F', r', b', j', x'⟩
  have x0 := (a.chg.hid r.sub).trans x'
  by_cases hlt : i < ds.length
  · obtain ⟨go, yl⟩ := it.go i T' H' r'.trk b' hlt
    refine .inr ⟨go, fun σ2 H2 => ∃ T2 env2 F2, RE G T2 H2 σ2 env2 F2 ∧ Bs T2 H2 ∧ J (i + 1) env2 ∧ Ex (hid T1 H1) (hid T2 H2), fun σ2 H2 ⟨T2, env2, F2, r2, b2, j2, x2⟩ => ⟨ds.length - (i + 1), by omega, rfl, hlt, T2, env2, F2, r2, b2, j2, x2⟩, fun v H2 y => ?_⟩
    obtain ⟨d, hd, ex, fz⟩ := yl v H2 y
    have xi : Ex (hid T' H') (hid T' H2) := hid_mono ex
    refine ⟨T', env', F', d, r'.ex ex, fz, hg.mono _ _ _ _ (fun e' q σ3 T3 H3 F3 r3 x3 => ?_) (js i d env' hd j')⟩
    refine ⟨T3, e', F3, r3, hb.mono { nx := J (i + 1), rt := (toD G (hid T H) D).rt, bk := (toD G (hid T H) D).nx, ct := J (i + 1) } _ _ ⟨fun e q σ4 T4 H4 F4 r4 x4 => ?_, fun s e q => q, fun e q σ4 T4 H4 F4 r4 x4 => ?_, fun e q σ4 T4 H4 F4 r4 x4 => ?_⟩ q⟩
    · have xx := (xi.trans x3).trans x4
      exact ⟨T4, e, F4, r4, it.keep _ _ _ _ b' xx, q, x'.trans xx⟩
    · exact q σ4 T4 H4 F4 r4 (((x0.trans xi).trans x3).trans x4)
    · have xx := (xi.trans x3).trans x4
      exact ⟨T4, e, F4, r4, it.keep _ _ _ _ b' xx, q, x'.trans xx⟩
  · have e : i = ds.length := by omega
    subst e
    exact .inl ⟨it.stop _ T' H' b' rfl, jd env' j' σ' T' H' F' r' x0⟩
/-! ### while -/
def wWhile (t : WT) (w : WS) : WS := fun D env => ∃ J : Nat → Env → Prop, (∃ m, J m env) ∧ ∀ m e, J m e → t e fun b e' => if b = true then w { nx := fun e2 => ∃ m', m' < m ∧ J m' e2, ct := fun e2 => ∃ m', m' < m ∧ J m' e2, bk := D.nx, rt := D.rt } e' else D.nx e'
theorem gs_while {t : WT} {ws : WS} {c : Expr} {body : List Stmt} (hp : PassesOwn (model X.prog X.w) X.A X.env X.xe) (hc : GT X G c t) (hb : GSs X G body ws) : GS X G (.While c body [] pos) (wWhile t ws) := by
  refine ⟨ps_imp (ps_while hp hc.pt hb.pss) fun D σ H ⟨T, env, F, r, J, ⟨m0, j0⟩, js⟩ => ?_, fun D D' env l ⟨J, j0, js⟩ => ⟨J, j0, fun m e hj => hc.mono _ _ _ (fun b e' q => ?_) (js m e hj)⟩⟩
  · refine ⟨fun m σ H' => ∃ T' env' F', RE G T' H' σ env' F' ∧ J m env' ∧ Ex (hid T H) (hid T' H'), ⟨m0, T, env, F, r, j0, Ex.refl _⟩, ?_⟩
    rintro m σ' H' ⟨T', env', F', r', j', x'⟩
    refine ⟨T', env', F', r', hc.mono _ _ _ (fun b e q T2 H2 F2 a => ?_) (js m env' j')⟩
    have x2 := x'.trans (a.chg.hid r'.sub)
    cases b with
    | true =>
      refine ite_tt ⟨fun σ3 H3 => ∃ m', m' < m ∧ ∃ T3 env3 F3, RE G T3 H3 σ3 env3 F3 ∧ J m' env3 ∧ Ex (hid T H) (hid T3 H3), fun σ3 H3 q => q, T2, e, F2, a.re, hb.mono { nx := fun e2 => ∃ m', m' < m ∧ J m' e2, ct := fun e2 => ∃ m', m' < m ∧ J m' e2, bk := (toD G (hid T H) D).nx, rt := (toD G (hid T H) D).rt } _ _ ⟨fun e3 ⟨m', hm, hj⟩ σ3 T3 H3 F3 r3 x3 => ⟨m', hm, T3, e3, F3, r3, hj, x2.trans x3⟩, fun s e q => q, fun e3 q σ3 T3 H3 F3 r3 x3 => q σ3 T3 H3 F3 r3 (x2.trans x3), fun e3 ⟨m', hm, hj⟩ σ3 T3 H3 F3 r3 x3 => ⟨m', hm, T3, e3, F3, r3, hj, x2.trans x3⟩⟩ q⟩
    | false => exact ite_ff (q σ' T2 H2 F2 a.re x2)
  · cases b with
    | true => exact hb.mono { nx := fun e2 => ∃ m', m' < m ∧ J m' e2, ct := fun e2 => ∃ m', m' < m ∧ J m' e2, bk := D.nx, rt := D.rt } _ _ ⟨fun _ q => q, l.rt, l.nx, fun _ q => q⟩ q
    | false => exact l.nx _ q
end
end Fx

namespace Fx
open PySem PySem.Spec PyProof.Rows L2 Evl Lk

/-! ### what a def promises, over trees: the arguments, what is wanted of its value and of the arguments behind it -/
abbrev WD := List Sl → (Sl → List Sl → Prop) → Prop
def gA (K : PySem.W.Frag) (tabs : List Addr) (T : Addr → Prop) (H : Hp) (as : List Sl) (F : Nat → List Addr) (vs : List V) : Gx := ⟨K, tabs, T, H, OwnP (as.map some) F, vs.map some, fun _ => true, fun _ _ => False, fun _ => none⟩
def spW (K : PySem.W.Frag) (tabs : List Addr) (W : WD) : Sp := fun vs H Q _ => ∃ T as F, RE (gA K tabs T H as F vs) T H (vs.map some) (as.map some) F ∧
  W as fun r as' => ∀ v T' H' F' fr, RE (gA K tabs T H as F vs) T' H' (vs.map some) (as'.map some) F' → (∀ j o, as'[j]? = some (.vw o) → as[j]? = some (.vw o) ∧ F' j = F j) → ResS (gA K tabs T H as F vs) T' H' (as'.map some) F' r v fr → Q v H'
/-- the arguments behind the body: what is handed on owned stands in its slot -/
def outA : List Bool → List Sl → Env → List Sl
  | b :: fl, s :: as, e :: env => (if b = true then e.getD s else s) :: outA fl as env
  | _, _, _ => []
def OutOk : List Bool → List Sl → Env → Prop
  | b :: fl, s :: as, e :: env => (if b = true then ∃ o, e = some (.own o) else ∀ o, s ≠ .own o) ∧ OutOk fl as env
  | [], [], _ => True
  | _, _, _ => False
theorem outOk_get : ∀ {fl : List Bool} {as : List Sl} {env : Env}, OutOk fl as env → (outA fl as env).length = as.length ∧ fl.length = as.length ∧ ∀ j s, as[j]? = some s → (fl.getD j false = true ∧ (∃ o, env[j]? = some (some (.own o)) ∧ (outA fl as env)[j]? = some (.own o))) ∨ (fl.getD j false = false ∧ (∀ o, s ≠ .own o) ∧ (outA fl as env)[j]? = some s)
  | [], [], _, _ => ⟨rfl, rfl, fun j s h => by cases h⟩
  | [], _ :: _, _, h => h.elim
  | _ :: _, [], _, h => h.elim
  | _ :: _, _ :: _, [], h => h.elim
  | b :: fl, s :: as, e :: env, h => by
    obtain ⟨h1, h2⟩ := h
    obtain ⟨g1, g2, g3⟩ := outOk_get h2
    refine ⟨by simp only [outA, List.length_cons, g1], by simp only [List.length_cons, g2], fun j t hj => ?_⟩
    cases j with
    | zero =>
      cases hj
      cases b with
      | true =>
        rw [if_pos rfl] at h1
        obtain ⟨o, rfl⟩ := h1
        exact .inl ⟨rfl, o, rfl, rfl⟩
      | false =>
        rw [if_neg (by decide)] at h1
        exact .inr ⟨rfl, h1, rfl⟩
    | succ j => exact g3 j t (by simpa using hj)
def startE (N : List Str) (as : List Sl) : Env := as.map some ++ List.replicate (N.length - as.length) none
theorem map_some_get {α : Type} {l : List α} {j : Nat} {s : α} : (l.map some)[j]? = some (some s) ↔ l[j]? = some s := by
  rw [List.getElem?_map]
  cases l[j]? <;> simp
/-! ### behind a body: the arguments' state -/
def gF (K : PySem.W.Frag) (tabs : List Addr) (N : List Str) (fl : List Bool) (T : Addr → Prop) (H : Hp) (as : List Sl) (F : Nat → List Addr) (vs : List V) (xw : Xv → Env → Prop) : Gx := ⟨K, tabs, T, H, OwnP (as.map some) F, L2.start N vs, fun i => fl.getD i false, xw, fun _ => none⟩
section
variable {K : PySem.W.Frag} {tabs : List Addr} {N : List Str} {fl : List Bool} {T : Addr → Prop} {H : Hp} {as : List Sl} {F : Nat → List Addr} {vs : List V} {xw : Xv → Env → Prop}
theorem ex_none {H : Hp} : Ex (fun _ => none) H := fun _ _ h => by cases h
/-- the frame as it begins -/
theorem in_re (r : RE (gA K tabs T H as F vs) T H (vs.map some) (as.map some) F) : RE (gF K tabs N fl T H as F vs xw) T H (L2.start N vs) (startE N as) F := by
  have ha : as.length = vs.length := by have e := r.len; rwa [List.length_map, List.length_map] at e
  have sg : ∀ j t, (startE N as)[j]? = some (some t) → as[j]? = some t := fun j t h => by
    unfold startE at h
    by_cases hl : j < (as.map some).length
    · rw [List.getElem?_append_left hl] at h
      exact map_some_get.mp h
    · rw [List.getElem?_append_right (by omega), List.getElem?_replicate] at h
      split at h <;> cases h
  have so : ∀ j, IsOwn (startE N as) j → IsOwn (as.map some) j := fun j ⟨o, h⟩ => ⟨o, map_some_get.mpr (sg j _ h)⟩
  refine ⟨r.trk, r.tab, fun j t h => ?_, fun i j n h1 ⟨t, h2⟩ => r.dis i j n (so i h1) ⟨t, map_some_get.mpr (sg j t h2)⟩, .refl r.trk, fun a ⟨j, h1, h2⟩ => .inl ⟨j, so j h1, h2⟩, r.trk, fun _ _ => rfl, ?_, ex_none⟩
  · obtain ⟨v, h1, h2⟩ := r.slot j t (map_some_get.mpr (sg j t h))
    have hj : j < (vs.map some).length := (List.getElem?_eq_some_iff.mp h1).1
    refine ⟨v, ?_, h2⟩
    unfold L2.start
    rw [List.getElem?_append_left hj]
    exact h1
  · unfold startE L2.start
    rw [List.length_append, List.length_append, List.length_map, List.length_map, List.length_replicate, List.length_replicate, ha]
/-- .. as it ends -/
theorem out_re {env : Env} {σ' : L2.St} {T' : Addr → Prop} {H' : Hp} {F' : Nat → List Addr} (r : RE (gA K tabs T H as F vs) T H (vs.map some) (as.map some) F) (oo : OutOk fl as env) (r' : RE (gF K tabs N fl T H as F vs xw) T' H' σ' env F') :
    ∃ F2, RE (gA K tabs T H as F vs) T' H' (vs.map some) ((outA fl as env).map some) F2 ∧ (∀ j o, (outA fl as env)[j]? = some (.vw o) → as[j]? = some (.vw o) ∧ F2 j = F j) ∧
      ∀ s1 v fr, ResS (gF K tabs N fl T H as F vs xw) T' H' env F' s1 v fr → ResS (gA K tabs T H as F vs) T' H' ((outA fl as env).map some) F2 s1 v fr := by
  have ha : as.length = vs.length := by have e := r.len; rwa [List.length_map, List.length_map] at e
  obtain ⟨o1, o2, o3⟩ := outOk_get oo
  -- where a slot of the arguments behind comes from
  have key : ∀ j t, ((outA fl as env).map some)[j]? = some (some t) → (fl.getD j false = true ∧ ∃ o, t = .own o ∧ env[j]? = some (some (.own o))) ∨ (fl.getD j false = false ∧ as[j]? = some t ∧ ∀ o, t ≠ .own o) := fun j t h => by
    have h := map_some_get.mp h
    have hj : j < as.length := by rw [← o1]; exact (List.getElem?_eq_some_iff.mp h).1
    rcases o3 j as[j] (List.getElem?_eq_getElem hj) with ⟨b, o, e1, e2⟩ | ⟨b, n, e2⟩
    · rw [h] at e2
      cases e2
      exact .inl ⟨b, o, rfl, e1⟩
    · rw [h] at e2
      cases e2
      exact .inr ⟨b, List.getElem?_eq_getElem hj, n⟩
  have kOwn : ∀ j, IsOwn ((outA fl as env).map some) j → fl.getD j false = true ∧ IsOwn env j := fun j ⟨o, h⟩ => by
    rcases key j _ h with ⟨b, o', _, e⟩ | ⟨_, _, n⟩
    · exact ⟨b, o', e⟩
    · exact absurd rfl (n o)
  -- a view's own things are not of the frame's
  have nv : ∀ j t, as[j]? = some t → (∀ o, t ≠ .own o) → ∀ a ∈ F j, ¬ (OwnP (as.map some) F a ∨ H a = none) := fun j t hj n a ha h => by
    obtain ⟨v, _, zz⟩ := r.slot j t (map_some_get.mpr hj)
    rcases h with ⟨i, hi, hF⟩ | h
    · refine r.dis i j (fun e => ?_) hi ⟨t, map_some_get.mpr hj⟩ a hF ha
      subst e
      obtain ⟨o, ho⟩ := hi
      have ho := map_some_get.mp ho
      rw [hj] at ho
      cases ho
      exact n o rfl
    · exact r.trk a (zz.sub a ha) h
  refine ⟨fun j => if fl.getD j false = true then F' j else F j, ⟨r'.trk, r'.tab, fun j t h => ?_, fun i j n h1 ⟨t, h2⟩ a ha hb => ?_, r'.st, fun a ⟨j, h1, h2⟩ => ?_, r.trk, fun _ _ => rfl, ?_, ex_none⟩, fun j o h => ?_, fun s1 v fr z => ⟨z.rel, z.nv, fun o e i ⟨t, h⟩ a ha hF => ?_, z.from_⟩⟩
  · rcases key j t h with ⟨b, o, rfl, e⟩ | ⟨b, e, n⟩
    · obtain ⟨u, h1, h2⟩ := r'.slot j _ e
      have hj : j < as.length := by rw [← o1]; exact (List.getElem?_eq_some_iff.mp (map_some_get.mp h)).1
      refine ⟨u, ?_, by simp only [b, if_true]; exact h2⟩
      have p := r'.pin j b
      have p2 : (L2.start N vs)[j]? = (vs.map some)[j]? := by
        unfold L2.start
        rw [List.getElem?_append_left (by rw [List.length_map, ← ha]; exact hj)]
      rw [← p2]
      exact p.symm.trans h1
    · obtain ⟨u, h1, h2⟩ := r.slot j t (map_some_get.mpr e)
      refine ⟨u, h1, ?_⟩
      simp only [b, Bool.false_eq_true, if_false]
      exact h2.chg r'.st r.sub fun a ha hp => nv j t e n a ha (.inl hp)
  · obtain ⟨b, ho⟩ := kOwn i h1
    simp only [b, if_true] at ha
    rcases key j t h2 with ⟨b2, o, rfl, e⟩ | ⟨b2, e, n2⟩
    · simp only [b2, if_true] at hb
      exact r'.dis i j n ho ⟨_, e⟩ a ha hb
    · simp only [b2, Bool.false_eq_true, if_false] at hb
      exact nv j t e n2 a hb (r'.ow a ⟨i, ho, ha⟩)
  · obtain ⟨b, ho⟩ := kOwn j h1
    simp only [b, if_true] at h2
    exact r'.ow a ⟨j, ho, h2⟩
  · rw [List.length_map, List.length_map, o1, ha]
  · rcases key j _ (map_some_get.mpr h) with ⟨b, o', e, _⟩ | ⟨b, e, _⟩
    · cases e
    · exact ⟨e, by simp only [b, Bool.false_eq_true, if_false]⟩
  · rcases key i t h with ⟨b, o', rfl, e2⟩ | ⟨b, e2, n⟩
    · simp only [b, if_true] at hF
      exact z.dis o e i ⟨_, e2⟩ a ha hF
    · simp only [b, Bool.false_eq_true, if_false] at hF
      exact nv i t e2 n a hF (z.from_ o e a ha)
end
section
variable {P : Program} {w : World} {K : PySem.W.Frag} {mg : Str → Option Value} {base : Heap} {x q : Str} {st : Stmt} {N ps : List Str} {k : Nat} {tabs : List Addr} {W : WD}
theorem spW_len {as : List Sl} {vs : List V} {T : Addr → Prop} {H : Hp} {F : Nat → List Addr} (r : RE (gA K tabs T H as F vs) T H (vs.map some) (as.map some) F) : vs.length = as.length := by
  have e := r.len
  rw [List.length_map, List.length_map] at e
  exact e.symm
/-- THE RULE: a def, by its body's reading -/
theorem fx_fn {f : Addr} {fd : FuncData} (fl : List Bool) (F : Fun K x q st f fd) (S : FnScope N ps (defScope st)) (hlen : ∀ as Q, W as Q → as.length = ps.length)
    (hbody : ∀ (cdv : Value) (A : Around) (outer : List PySem.Env) (s : Shared) (H : Hp) (E : XK) (T : Addr → Prop) (P0 : Addr → Prop) (σ0 : L2.St), fd.code = cdv → Room k (A.deeper (envOfC q (defScope st) s.heap.objs.size f cdv)) →
      ∃ ws, GSs (cxOf CX0 P w K mg base N q (defScope st) f cdv A outer s H E).nox ⟨K, tabs, T, H, P0, σ0, fun i => fl.getD i false, fun _ _ => False, fun _ => none⟩ (defBody st) ws ∧
        ∀ as Q, W as Q → ws { nx := fun env => OutOk fl as env ∧ Q (.f .non) (outA fl as env), rt := fun r env => OutOk fl as env ∧ Q r (outA fl as env) } (startE N as)) : FnOk P w K mg base CX0 (k + 1) f fd ps (spW K tabs W) := by
  have lenV : ∀ vs H Q E, spW K tabs W vs H Q E → vs.length = ps.length := fun vs H Q E ⟨T, as, F, r, h⟩ => by
    rw [spW_len r]
    exact hlen as _ h
  suffices main : ∀ (cdv : Value) (A : Around) (outer : List PySem.Env) (s : Shared) (H : Hp) (vs : List V) (Q : VK) (E : XK), fd.code = cdv → Room k (A.deeper (envOfC q (defScope st) s.heap.objs.size f cdv)) → spW K tabs W vs H Q E →
      ∃ t, PSs (cxOf CX0 P w K mg base N q (defScope st) f cdv A outer s H E).nox (defBody st) t ∧ t { nx := fun _ H' => Q .non H', rt := Q } (L2.start N vs) H by
    obtain ⟨oc, od, kV, doc, pm, an, cdv, ct, osl, rfl, lk, hcd⟩ := F.ex
    refine fn_of lk hcd S lenV fun A outer s H vs Q E hr hsp => ?_
    obtain ⟨t, h, q⟩ := main cdv A outer s H vs Q E rfl hr hsp
    exact ⟨t, h.nox, q⟩
  intro cdv A outer s H vs Q E hcd hr h
  obtain ⟨T, as, F, r, hW⟩ := h
  obtain ⟨ws, hs, hq⟩ := hbody cdv A outer s H E T (OwnP (as.map some) F) (L2.start N vs) hcd hr
  refine ⟨_, hs.pss, T, startE N as, F, in_re r, ?_⟩
  let Qs : Sl → List Sl → Prop := fun r as' => ∀ v T' H' F' fr, RE (gA K tabs T H as F vs) T' H' (vs.map some) (as'.map some) F' → (∀ j o, as'[j]? = some (.vw o) → as[j]? = some (.vw o) ∧ F' j = F j) → ResS (gA K tabs T H as F vs) T' H' (as'.map some) F' r v fr → Q v H'
  refine hs.mono { nx := fun env => OutOk fl as env ∧ Qs (.f .non) (outA fl as env), rt := fun r env => OutOk fl as env ∧ Qs r (outA fl as env) } _ _ ⟨fun env ⟨oo, q⟩ σ' T' H' F' r' _ => ?_, fun s1 env ⟨oo, q⟩ v σ' T' H' F' fr r' z => ?_, fun _ h => h.elim, fun _ h => h.elim⟩ (hq as _ hW)
  · obtain ⟨F2, g1, g2, g3⟩ := out_re r oo r'
    exact q .non T' H' F2 [] g1 g2 (g3 (.f .non) .non [] ⟨⟨.non, rfl⟩, nofun, nofun, nofun⟩)
  · obtain ⟨F2, g1, g2, g3⟩ := out_re r oo r'
    exact q v T' H' F2 fr g1 g2 (g3 s1 v fr z)
end
/-! ### defs that may raise -/
section
variable {P : Program} {w : World} {K : PySem.W.Frag} {mg : Str → Option Value} {base : Heap} {x q : Str} {st : Stmt} {N ps : List Str} {k : Nat} {tabs : List Addr} {W : WDX}
end
end Fx

namespace Fx
open PySem PySem.Spec PyProof.Rows L2 Evl Lk

/-! ### a call -/
def resA : List Ag → Env → Option (List Sl)
  | [], _ => some []
  | .v (.vw _) :: _, _ => none
  | .v s :: as, e => (resA as e).map (s :: ·)
  | .slot i true :: as, e => match e[i]? with
    | some (some (.own o)) => (resA as e).map (.own o :: ·)
    | _ => none
  | .slot i false :: as, e => match e[i]? with
    | some (some (.own o)) => (resA as e).map (.vw o :: ·)
    | some (some s) => (resA as e).map (s :: ·)
    | _ => none
def slotIs (i : Nat) : Ag → Bool
  | .slot k _ => k == i
  | _ => false
def agOk : List Ag → Bool
  | [] => true
  | .slot i true :: as => !as.any (slotIs i) && agOk as
  | .slot i false :: as => !as.any (fun a => match a with | .slot k true => k == i | _ => false) && agOk as
  | _ :: as => agOk as
def idxOwn : List Ag → Nat → Option Nat
  | [], _ => none
  | .slot k true :: as, i => if k = i then some 0 else (idxOwn as i).map (· + 1)
  | _ :: as, i => (idxOwn as i).map (· + 1)
def wbGo (ags : List Ag) (as' : List Sl) : Nat → Env → Env
  | _, [] => []
  | i, s :: e => (match idxOwn ags i with | some j => as'[j]? | none => s) :: wbGo ags as' (i + 1) e
def wCall (W : WD) (wa : WA) : WE := fun env Q => wa env fun ags e => ∃ as, resA ags e = some as ∧ agOk ags = true ∧ W as fun r as' => as'.length = as.length ∧ Q r (wbGo ags as' 0 e)
def MonoD (W : WD) : Prop := ∀ as (Q Q' : Sl → List Sl → Prop), (∀ r as', Q r as' → Q' r as') → W as Q → W as Q'
theorem wbGo_len (ags : List Ag) (as' : List Sl) : ∀ (i : Nat) (e : Env), (wbGo ags as' i e).length = e.length
  | _, [] => rfl
  | i, _ :: e => by rw [wbGo, List.length_cons, wbGo_len ags as' (i + 1) e, List.length_cons]
theorem wbGo_get (ags : List Ag) (as' : List Sl) : ∀ (i : Nat) (e : Env) (k : Nat), k < e.length → (wbGo ags as' i e)[k]? = match idxOwn ags (i + k) with | some j => some as'[j]? | none => e[k]?
  | i, [], k, h => absurd h (Nat.not_lt_zero _)
  | i, s :: e, 0, h => by
    rw [wbGo]
    show some _ = _
    cases idxOwn ags i <;> rfl
  | i, s :: e, k + 1, h => by
    rw [wbGo, List.getElem?_cons_succ, wbGo_get ags as' (i + 1) e k (by simpa using h)]
    have : i + 1 + k = i + (k + 1) := by omega
    rw [this]
    cases idxOwn ags (i + (k + 1)) <;> rfl
theorem idxOwn_some : ∀ {ags : List Ag} {i j : Nat}, idxOwn ags i = some j → ags[j]? = some (.slot i true)
  | [], i, j, h => by cases h
  | .slot k true :: as, i, j, h => by
    unfold idxOwn at h
    by_cases e : k = i
    · rw [if_pos e] at h
      cases h
      subst e
      rfl
    · rw [if_neg e] at h
      cases q : idxOwn as i with
      | none => rw [q] at h; cases h
      | some m =>
        rw [q] at h
        cases h
        have z := idxOwn_some q
        simpa using z
  | .slot k false :: as, i, j, h => by
    unfold idxOwn at h
    cases q : idxOwn as i with
    | none => rw [q] at h; cases h
    | some m =>
      rw [q] at h
      cases h
      have z := idxOwn_some q
      simpa using z
  | .v s :: as, i, j, h => by
    unfold idxOwn at h
    cases q : idxOwn as i with
    | none => rw [q] at h; cases h
    | some m =>
      rw [q] at h
      cases h
      have z := idxOwn_some q
      simpa using z
theorem idxOwn_none : ∀ {ags : List Ag} {i j : Nat}, idxOwn ags i = none → ags[j]? ≠ some (.slot i true)
  | [], i, j, h => by simp
  | .slot k true :: as, i, j, h => by
    unfold idxOwn at h
    by_cases e : k = i
    · rw [if_pos e] at h
      cases h
    · rw [if_neg e] at h
      cases j with
      | zero => intro z; cases z; exact e rfl
      | succ j =>
        have z := idxOwn_none (ags := as) (i := i) (j := j) (by simpa using h)
        simpa using z
  | .slot k false :: as, i, j, h => by
    unfold idxOwn at h
    cases j with
    | zero => intro z; cases z
    | succ j =>
      have z := idxOwn_none (ags := as) (i := i) (j := j) (by simpa using h)
      simpa using z
  | .v s :: as, i, j, h => by
    unfold idxOwn at h
    cases j with
    | zero => intro z; cases z
    | succ j =>
      have z := idxOwn_none (ags := as) (i := i) (j := j) (by simpa using h)
      simpa using z
/-- an argument, resolved -/
theorem resA_get : ∀ {ags : List Ag} {e : Env} {as : List Sl}, resA ags e = some as → as.length = ags.length ∧ ∀ (j : Nat) (s : Sl), as[j]? = some s →
    (ags[j]? = some (Ag.v s) ∧ ∀ o, s ≠ .vw o) ∨ (∃ (i : Nat) (o : O), ags[j]? = some (Ag.slot i true) ∧ s = .own o ∧ e[i]? = some (some (.own o))) ∨ (∃ (i : Nat) (t : Sl), ags[j]? = some (Ag.slot i false) ∧ e[i]? = some (some t) ∧ (∀ o, s ≠ .own o) ∧ ((∃ o, t = .own o ∧ s = .vw o) ∨ t = s))
  | [], e, as, h => by
    cases h
    exact ⟨rfl, fun j s h => by cases h⟩
  | .v s :: ags, e, as, h => by
    have h : ∃ as1, resA ags e = some as1 ∧ as = s :: as1 ∧ ∀ o, s ≠ .vw o := by
      cases s with
      | vw o => cases h
      | f d =>
        unfold resA at h
        cases q : resA ags e with
        | none => rw [q] at h; cases h
        | some as1 => rw [q] at h; cases h; exact ⟨_, rfl, rfl, nofun⟩
      | own d =>
        unfold resA at h
        cases q : resA ags e with
        | none => rw [q] at h; cases h
        | some as1 => rw [q] at h; cases h; exact ⟨_, rfl, rfl, nofun⟩
    obtain ⟨as1, h1, rfl, nv⟩ := h
    obtain ⟨l, g⟩ := resA_get h1
    refine ⟨by simp only [List.length_cons, l], fun j t hj => ?_⟩
    cases j with
    | zero => cases hj; exact .inl ⟨rfl, nv⟩
    | succ j => exact g j t (by simpa using hj)
  | .slot i true :: ags, e, as, h => by
    unfold resA at h
    split at h
    · rename_i o ho
      cases q : resA ags e with
      | none => rw [q] at h; cases h
      | some as1 =>
        rw [q] at h
        cases h
        obtain ⟨l, g⟩ := resA_get q
        refine ⟨by simp only [List.length_cons, l], fun j t hj => ?_⟩
        cases j with
        | zero => cases hj; exact .inr (.inl ⟨i, o, rfl, rfl, ho⟩)
        | succ j => exact g j t (by simpa using hj)
    · cases h
  | .slot i false :: ags, e, as, h => by
    unfold resA at h
    split at h
    · rename_i o ho
      cases q : resA ags e with
      | none => rw [q] at h; cases h
      | some as1 =>
        rw [q] at h
        cases h
        obtain ⟨l, g⟩ := resA_get q
        refine ⟨by simp only [List.length_cons, l], fun j t hj => ?_⟩
        cases j with
        | zero => cases hj; exact .inr (.inr ⟨i, _, rfl, ho, nofun, .inl ⟨o, rfl, rfl⟩⟩)
        | succ j => exact g j t (by simpa using hj)
    · rename_i s hn ho
      cases q : resA ags e with
      | none => rw [q] at h; cases h
      | some as1 =>
        rw [q] at h
        cases h
        obtain ⟨l, g⟩ := resA_get q
        refine ⟨by simp only [List.length_cons, l], fun j t hj => ?_⟩
        cases j with
        | zero => cases hj; exact .inr (.inr ⟨i, _, rfl, ho, fun o e => hn o (by rw [e]), .inr rfl⟩)
        | succ j => exact g j t (by simpa using hj)
    · cases h
theorem agOk_get : ∀ {ags : List Ag}, agOk ags = true → ∀ {j k i : Nat} {b : Bool}, j ≠ k → ags[j]? = some (.slot i true) → ags[k]? = some (.slot i b) → False
  | [], _, j, k, i, b, n, h1, h2 => by cases h1
  | a :: ags, h, j, k, i, b, n, h1, h2 => by
    have hr : agOk ags = true := by
      cases a with
      | v s => exact h
      | slot m c => cases c <;> (unfold agOk at h; rw [Bool.and_eq_true] at h; exact h.2)
    cases j with
    | zero =>
      cases h1
      cases k with
      | zero => exact n rfl
      | succ k =>
        unfold agOk at h
        rw [Bool.and_eq_true] at h
        have m := List.mem_of_getElem? (show ags[k]? = some (.slot i b) from by simpa using h2)
        have q := h.1
        rw [Bool.not_eq_true'] at q
        have z : ags.any (slotIs i) = true := List.any_eq_true.mpr ⟨_, m, by simp [slotIs]⟩
        rw [q] at z
        cases z
    | succ j =>
      cases k with
      | zero =>
        cases h2
        have m := List.mem_of_getElem? (show ags[j]? = some (.slot i true) from by simpa using h1)
        cases b with
        | true =>
          unfold agOk at h
          rw [Bool.and_eq_true] at h
          have q := h.1
          rw [Bool.not_eq_true'] at q
          have z : ags.any (slotIs i) = true := List.any_eq_true.mpr ⟨_, m, by simp [slotIs]⟩
          rw [q] at z
          cases z
        | false =>
          unfold agOk at h
          rw [Bool.and_eq_true] at h
          have q := h.1
          rw [Bool.not_eq_true'] at q
          have z : ags.any (fun a => match a with | .slot k true => k == i | _ => false) = true := List.any_eq_true.mpr ⟨_, m, by simp⟩
          rw [q] at z
          cases z
      | succ k => exact agOk_get hr (fun e => n (by rw [e])) (show ags[j]? = some (.slot i true) from by simpa using h1) (show ags[k]? = some (.slot i b) from by simpa using h2)
/-- the footprints of the arguments -/
def argF (ags : List Ag) (Fa F : Nat → List Addr) (j : Nat) : List Addr := match ags[j]? with
  | some (.slot i _) => F i
  | _ => Fa j
section
variable {X : Cx} {G : Gx} {σ : L2.St} {T0 T1 : Addr → Prop} {H0 H1 : Hp} {e0 e1 : Env} {F0 F1 : Nat → List Addr} {ags : List Ag} {vs : List V} {Fa : Nat → List Addr} {as : List Sl}
theorem argF_v {j : Nat} {s : Sl} (h : ags[j]? = some (.v s)) : argF ags Fa F1 j = Fa j := by unfold argF; rw [h]
theorem argF_s {j i : Nat} {b : Bool} (h : ags[j]? = some (.slot i b)) : argF ags Fa F1 j = F1 i := by unfold argF; rw [h]
theorem call_args (r : RE G T1 H1 σ e1 F1) (z : ArgR G σ T0 H0 e0 F0 T1 H1 e1 F1 ags vs Fa) (hr : resA ags e1 = some as) (ok : agOk ags = true) :
    RE (gA G.K G.tabs T1 H1 as (argF ags Fa F1) vs) T1 H1 (vs.map some) (as.map some) (argF ags Fa F1) := by
  obtain ⟨hl, g⟩ := resA_get hr
  have sl : ∀ j s, as[j]? = some s → ∃ v, vs[j]? = some v ∧ SlR G T1 H1 s v (argF ags Fa F1 j) := fun j s hj => by
    rcases g j s hj with ⟨ha, nv⟩ | ⟨i, o, ha, rfl, he⟩ | ⟨i, t, ha, he, no, ht⟩
    · obtain ⟨v, h1, h2, _⟩ := z.val j s ha
      exact ⟨v, h1, by rw [argF_v ha]; exact h2⟩
    · obtain ⟨v, h1, h2⟩ := z.slt j i true ha
      obtain ⟨v', h3, h4⟩ := r.slot i _ he
      rw [h1] at h3
      cases h3
      exact ⟨v, h2, by rw [argF_s ha]; exact h4⟩
    · obtain ⟨v, h1, h2⟩ := z.slt j i false ha
      obtain ⟨v', h3, h4⟩ := r.slot i _ he
      rw [h1] at h3
      cases h3
      refine ⟨v, h2, ?_⟩
      rw [argF_s ha]
      rcases ht with ⟨o, rfl, rfl⟩ | rfl
      · exact h4
      · exact h4
  refine ⟨r.trk, r.tab, fun j s hj => ?_, fun j k n ⟨o, hj⟩ ⟨s, hk⟩ a ha hb => ?_, .refl r.trk, fun a h => .inl h, r.trk, fun _ _ => rfl, by rw [List.length_map, List.length_map, hl, z.len], ex_none⟩
  · obtain ⟨v, h1, h2⟩ := sl j s (map_some_get.mp hj)
    exact ⟨v, map_some_get.mpr h1, h2⟩
  · have hj := map_some_get.mp hj
    have hk := map_some_get.mp hk
    rcases g j _ hj with ⟨ga, _⟩ | ⟨i, o', ga, _, he⟩ | ⟨i, t, _, _, no, _⟩
    · rw [argF_v ga] at ha
      obtain ⟨d1, d2⟩ := z.dis j o ga
      rcases g k _ hk with ⟨gb, _⟩ | ⟨i, o', gb, _, he⟩ | ⟨i, t, gb, he, _, _⟩
      · rw [argF_v gb] at hb
        exact d2 k s (Ne.symm n) gb a ha hb
      · rw [argF_s gb] at hb
        exact d1 i ⟨_, he⟩ a ha hb
      · rw [argF_s gb] at hb
        exact d1 i ⟨_, he⟩ a ha hb
    · rw [argF_s ga] at ha
      rcases g k _ hk with ⟨gb, nv⟩ | ⟨i', o'', gb, _, he'⟩ | ⟨i', t, gb, he', _, _⟩
      · rw [argF_v gb] at hb
        cases s with
        | f d =>
          obtain ⟨v, _, q, _⟩ := z.val k _ gb
          rw [q.2] at hb
          cases hb
        | own o3 => exact (z.dis k o3 gb).1 i ⟨_, he⟩ a hb ha
        | vw o3 => exact nv o3 rfl
      · rw [argF_s gb] at hb
        by_cases e : i = i'
        · subst e; exact agOk_get ok n ga gb
        · exact r.dis i i' e ⟨_, he⟩ ⟨_, he'⟩ a ha hb
      · rw [argF_s gb] at hb
        by_cases e : i = i'
        · subst e; exact agOk_get ok n ga gb
        · exact r.dis i i' e ⟨_, he⟩ ⟨_, he'⟩ a ha hb
    · exact no o rfl
/-- what the callee may change -/
theorem call_own (z : ArgR G σ T0 H0 e0 F0 T1 H1 e1 F1 ags vs Fa) (hr : resA ags e1 = some as) {a : Addr} (h : OwnP (as.map some) (argF ags Fa F1) a) :
    (∃ (i j : Nat), ags[j]? = some (Ag.slot i true) ∧ IsOwn e1 i ∧ a ∈ F1 i) ∨ ∃ (j : Nat) (o : O), ags[j]? = some (Ag.v (.own o)) ∧ a ∈ Fa j := by
  obtain ⟨hl, g⟩ := resA_get hr
  obtain ⟨j, ⟨o, hj⟩, ha⟩ := h
  have hj := map_some_get.mp hj
  rcases g j _ hj with ⟨ga, _⟩ | ⟨i, o', ga, _, he⟩ | ⟨i, t, _, _, no, _⟩
  · rw [argF_v ga] at ha
    exact .inr ⟨j, o, ga, ha⟩
  · rw [argF_s ga] at ha
    exact .inl ⟨i, j, ga, ⟨_, he⟩, ha⟩
  · exact absurd rfl (no o)
theorem call_att {as' : List Sl} {T' : Addr → Prop} {H' : Hp} {F' : Nat → List Addr} {rs : Sl} {v : V} {fr : List Addr} (r0 : RE G T0 H0 σ e0 F0) (a1 : Att G σ T0 H0 e0 F0 T1 H1 e1 F1) (z : ArgR G σ T0 H0 e0 F0 T1 H1 e1 F1 ags vs Fa) (hr : resA ags e1 = some as) (ok : agOk ags = true)
    (hl' : as'.length = as.length) (r' : RE (gA G.K G.tabs T1 H1 as (argF ags Fa F1) vs) T' H' (vs.map some) (as'.map some) F') (hv : ∀ (j : Nat) (o : O), as'[j]? = some (.vw o) → as[j]? = some (.vw o) ∧ F' j = argF ags Fa F1 j)
    (zs : ResS (gA G.K G.tabs T1 H1 as (argF ags Fa F1) vs) T' H' (as'.map some) F' rs v fr) :
    ∃ F2, Att G σ T0 H0 e0 F0 T' H' (wbGo ags as' 0 e1) F2 ∧ Res G T0 H0 e0 F0 T' H' (wbGo ags as' 0 e1) F2 rs v fr := by
  obtain ⟨hl, g⟩ := resA_get hr
  have r1 := a1.re
  have ch : Chg T1 H1 (OwnP (as.map some) (argF ags Fa F1)) T' H' := r'.st
  have own0 : ∀ a, OwnP (as.map some) (argF ags Fa F1) a → OwnP e0 F0 a ∨ H0 a = none := fun a h => by
    rcases call_own z hr h with ⟨i, j, _, hi, ha⟩ | ⟨j, o, hj, ha⟩
    · exact a1.own a ⟨i, hi, ha⟩
    · exact z.from_ j o hj a ha
  have dom0 : ∀ a, H1 a = none → H0 a = none := fun a h => by
    cases e : H0 a with
    | none => rfl
    | some u => exact absurd h (a1.chg.dom a (by rw [e]; exact nofun))
  have subC : Sub T1 (OwnP (as.map some) (argF ags Fa F1)) := (call_args r1 z hr ok).sub
  -- what stays in the frame is not the callee's
  have K3 : ∀ i s, e1[i]? = some (some s) → idxOwn ags i = none → ∀ a ∈ F1 i, ¬ (OwnP (as.map some) (argF ags Fa F1) a ∨ H1 a = none) := fun i s hi hn a ha h => by
    rcases h with h | h
    · rcases call_own z hr h with ⟨i', j, hj, ho, ha'⟩ | ⟨j, o, hj, ha'⟩
      · have e : i' ≠ i := fun e => idxOwn_none hn (by rw [← e]; exact hj)
        exact r1.dis i' i e ho ⟨_, hi⟩ a ha' ha
      · exact (z.dis j o hj).1 i ⟨_, hi⟩ a ha' ha
    · obtain ⟨v, _, q⟩ := r1.slot i s hi
      exact r1.trk a (q.sub a ha) h
  have slot : ∀ i s, (wbGo ags as' 0 e1)[i]? = some (some s) → i < e1.length ∧ ((∃ j, idxOwn ags i = some j ∧ as'[j]? = some s) ∨ (idxOwn ags i = none ∧ e1[i]? = some (some s))) := fun i s h => by
    have hi : i < e1.length := by rw [← wbGo_len ags as' 0 e1]; exact (List.getElem?_eq_some_iff.mp h).1
    rw [wbGo_get ags as' 0 e1 i hi, Nat.zero_add] at h
    cases q : idxOwn ags i with
    | none => rw [q] at h; exact ⟨hi, .inr ⟨rfl, h⟩⟩
    | some j => rw [q] at h; exact ⟨hi, .inl ⟨j, rfl, Option.some.inj h⟩⟩
  let F2 : Nat → List Addr := fun i => match idxOwn ags i with | some j => F' j | none => F1 i
  have F2s : ∀ {i j}, idxOwn ags i = some j → F2 i = F' j := fun {i j} h => by show (match idxOwn ags i with | some j => F' j | none => F1 i) = _; rw [h]
  have F2n : ∀ {i}, idxOwn ags i = none → F2 i = F1 i := fun {i} h => by show (match idxOwn ags i with | some j => F' j | none => F1 i) = _; rw [h]
  have asOwn : ∀ {i j}, idxOwn ags i = some j → ∃ o, as[j]? = some (.own o) := fun {i j} h => by
    have ha := idxOwn_some h
    have hj : j < as.length := by rw [hl]; exact (List.getElem?_eq_some_iff.mp ha).1
    rcases g j _ (List.getElem?_eq_getElem hj) with ⟨q, _⟩ | ⟨i', o, _, e, _⟩ | ⟨i', t, q, _, _, _⟩
    · rw [ha] at q; cases q
    · exact ⟨o, by rw [List.getElem?_eq_getElem hj, e]⟩
    · rw [ha] at q; cases q
  have notvw : ∀ {i j o}, idxOwn ags i = some j → as'[j]? ≠ some (.vw o) := fun {i j o} h z2 => by
    obtain ⟨q, _⟩ := hv j o z2
    obtain ⟨o', q'⟩ := asOwn h
    rw [q] at q'
    cases q'
  have c0 : Chg T0 H0 (OwnP e0 F0) T' H' := a1.chg.trans r0.trk ch own0
  have re : RE G T' H' σ (wbGo ags as' 0 e1) F2 := by
    refine ⟨r'.trk, r'.tab, fun i s h => ?_, fun i k n ⟨o, hi⟩ ⟨s, hk⟩ a ha hb => ?_, r1.st.trans r1.t0 ch fun a h => ?_, fun a ⟨i, ⟨o, hi⟩, ha⟩ => ?_, r1.t0, r1.pin, by rw [wbGo_len]; exact r1.len, r1.hx.trans (ch.hid subC)⟩
    · obtain ⟨_, ⟨j, hj, hs⟩ | ⟨hn, hs⟩⟩ := slot i s h
      · obtain ⟨v, h1, h2⟩ := r'.slot j s (map_some_get.mpr hs)
        obtain ⟨v', h3, h4⟩ := z.slt j i true (idxOwn_some hj)
        have h1 := map_some_get.mp h1
        rw [h4] at h1
        cases h1
        exact ⟨_, h3, by rw [F2s hj]; exact h2⟩
      · obtain ⟨v, h1, h2⟩ := r1.slot i s hs
        exact ⟨v, h1, by rw [F2n hn]; exact h2.chg ch subC fun a ha hp => K3 i s hs hn a ha (.inl hp)⟩
    · obtain ⟨_, ⟨j, hj, hs⟩ | ⟨hn, hs⟩⟩ := slot i _ hi
      · rw [F2s hj] at ha
        obtain ⟨_, ⟨j', hj', hs'⟩ | ⟨hn', hs'⟩⟩ := slot k _ hk
        · rw [F2s hj'] at hb
          refine r'.dis j j' (fun e => n ?_) ⟨_, map_some_get.mpr hs⟩ ⟨_, map_some_get.mpr hs'⟩ a ha hb
          subst e
          have q := idxOwn_some hj
          rw [idxOwn_some hj'] at q
          cases q
          rfl
        · rw [F2n hn'] at hb
          exact K3 k _ hs' hn' a hb (r'.ow a ⟨j, ⟨_, map_some_get.mpr hs⟩, ha⟩)
      · rw [F2n hn] at ha
        obtain ⟨_, ⟨j', hj', hs'⟩ | ⟨hn', hs'⟩⟩ := slot k _ hk
        · rw [F2s hj'] at hb
          cases s with
          | f d =>
            obtain ⟨v, _, q⟩ := r'.slot j' _ (map_some_get.mpr hs')
            rw [q.2] at hb
            cases hb
          | own o' => exact K3 i _ hs hn a ha (r'.ow a ⟨j', ⟨_, map_some_get.mpr hs'⟩, hb⟩)
          | vw o' => exact notvw hj' hs'
        · rw [F2n hn'] at hb
          exact r1.dis i k n ⟨_, hs⟩ ⟨_, hs'⟩ a ha hb
    · rcases own0 a h with q | q
      · exact r0.ow a q
      · refine .inr ?_
        cases e : G.H0 a with
        | none => rfl
        | some u => exact absurd q (r0.st.dom a (by rw [e]; exact nofun))
    · have key : G.P0 a ∨ H1 a = none → G.P0 a ∨ G.H0 a = none := fun h => h.imp id fun q => by
        cases e : G.H0 a with
        | none => rfl
        | some u => exact absurd q (r1.st.dom a (by rw [e]; exact nofun))
      obtain ⟨_, ⟨j, hj, hs⟩ | ⟨hn, hs⟩⟩ := slot i _ hi
      · rw [F2s hj] at ha
        rcases r'.ow a ⟨j, ⟨_, map_some_get.mpr hs⟩, ha⟩ with q | q
        · rcases own0 a q with q | q
          · exact r0.ow a q
          · refine .inr ?_
            cases e : G.H0 a with
            | none => rfl
            | some u => exact absurd q (r0.st.dom a (by rw [e]; exact nofun))
        · exact key (.inr q)
      · rw [F2n hn] at ha
        exact r1.ow a ⟨i, ⟨_, hs⟩, ha⟩
  refine ⟨F2, ⟨c0, re, fun a ⟨i, ⟨o, hi⟩, ha⟩ => ?_, fun i o h => ?_⟩, ⟨zs.rel, fun o e i ⟨s, hi⟩ a ha hF => ?_, fun o e a ha => ?_⟩⟩
  · obtain ⟨_, ⟨j, hj, hs⟩ | ⟨hn, hs⟩⟩ := slot i _ hi
    · rw [F2s hj] at ha
      rcases r'.ow a ⟨j, ⟨_, map_some_get.mpr hs⟩, ha⟩ with q | q
      · exact own0 a q
      · exact .inr (dom0 a q)
    · rw [F2n hn] at ha
      exact a1.own a ⟨i, ⟨_, hs⟩, ha⟩
  · obtain ⟨_, ⟨j, hj, hs⟩ | ⟨hn, hs⟩⟩ := slot i _ h
    · exact absurd hs (notvw hj)
    · obtain ⟨h1, h2⟩ := a1.vw i o hs
      exact ⟨h1, by rw [F2n hn]; exact h2⟩
  · obtain ⟨_, ⟨j, hj, hs⟩ | ⟨hn, hs⟩⟩ := slot i _ hi
    · rw [F2s hj] at hF
      exact zs.dis o e j ⟨_, map_some_get.mpr hs⟩ a ha hF
    · rw [F2n hn] at hF
      exact K3 i _ hs hn a hF (zs.from_ o e a ha)
  · rcases zs.from_ o e a ha with q | q
    · exact own0 a q
    · exact .inr (dom0 a q)
/-- f(e, ..) -/
theorem ge_call {x : Str} {k j : Nat} {W : WD} {tabs : List Addr} {p pos : Pos} {e : Expr} {es : List Expr} {wa : WA} (c : Cal X.prog X.w X.K X.mg X.base k x (spW X.K tabs W)) (hr : Room j X.A) (hk : k ≤ j) (hg : Gl X x) (hK : X.K = G.K) (ht : tabs = G.tabs) (mw : MonoD W) (ha : GA X G (e :: es) wa)
    (hdb : (x == ("__debug__" : Str)) = false := by decide) (he : starEach (e :: es) X.env = (false, eval e X.env) :: starEach es X.env := by rfl) (hpl : (backTo pos (starEach es X.env)).any (·.1) = false := by rfl) :
    GE X G (.Call (.Name x p) (e :: es) [] pos) (wCall W wa) := by
  subst ht
  refine ⟨pe_imp (pe_c c hr hk hg ha.pa hdb he hpl) fun σ H Q ⟨T, env, F, r, q⟩ => ⟨T, env, F, r, ha.mono _ _ _ (fun ags e1 ⟨as, h1, h2, h3⟩ vs T1 H1 F1 Fa a1 z1 => ?_) q⟩, fun env Q Q' i q => ha.mono _ _ _ (fun ags e1 ⟨as, h1, h2, h3⟩ => ⟨as, h1, h2, mw _ _ _ (fun r as' ⟨l, q⟩ => ⟨l, i _ _ q⟩) h3⟩) q⟩
  show spW X.K G.tabs W (vs ++ []) H1 Q E0
  rw [List.append_nil, hK]
  refine ⟨T1, as, argF ags Fa F1, call_args a1.re z1 h1 h2, mw _ _ _ (fun rs as' ⟨hl, q⟩ v T' H' F' fr r' hv zs => ?_) h3⟩
  obtain ⟨F2, a2, z2⟩ := call_att r a1 z1 h1 h2 hl r' hv zs
  exact q v T' H' F2 fr a2 z2
end
end Fx

namespace Fx
open PySem PySem.Spec PyProof.Rows L2 Evl Lk

/-! ### an owned result let go; a slot's thing moved -/
def wFrz (w : WE) : WE := fun env Q => w env fun r e => ∃ o d, r = .own o ∧ o.cd = some d ∧ Q (.f d) e
/-- the slot's thing is taken out as a value -/
def wMove (i : Nat) : WE := fun env Q => ∃ o d, env[i]? = some (some (.own o)) ∧ o.cd = some d ∧ Q (.f d) (env.set i none)
section
variable {X : Cx} {G : Gx} {T T1 : Addr → Prop} {H H1 : Hp} {σ : L2.St} {env env1 : Env} {F F1 : Nat → List Addr} {e : Expr} {w : WE}
/-- an owned thing of values, let go -/
theorem Ow.frz {o : O} {v : V} {fp : List Addr} {d : D} (h : Ow G.K T H o v fp) (e : o.cd = some d) : Fz G.K (hid (fun a => T a ∧ a ∉ fp) H) v d := by
  have x : Ex (hid T H) (hid (fun a => T a ∧ a ∉ fp) H) := fun a u q => hid_of (hid_some q).1 fun z => (hid_some q).2 z.1
  cases h with
  | f a => cases e; exact a.ex x
  | lst a b c => cases e; exact .lst (SqL.of (hid_of b fun z => z.2 (List.mem_singleton.mpr rfl))) (c.ex x)
  | dic a b l c n =>
    rename_i os _
    have e : (O.fds os).map (D.dic _) = some d := e
    cases e2 : O.fds os with
    | none => rw [e2] at e; cases e
    | some es =>
      rw [e2] at e
      cases e
      exact .dic (.inl (hid_of b fun z => z.2 (List.mem_cons_self ..))) l ((c.fds e2).ex x)
  | ins => cases e
/-- .. while all else stays -/
theorem att_free {fr : List Addr} (r : RE G T H σ env F) (hp : ∀ a ∈ fr, G.P0 a ∨ G.H0 a = none) (n : ∀ i, IsS env i → ∀ a ∈ fr, a ∉ F i) : RE G (fun a => T a ∧ a ∉ fr) H σ env F := by
  have c : Chg T H (fun a => a ∈ fr ∧ T a) (fun a => T a ∧ a ∉ fr) H := ⟨fun _ _ h _ => h, fun a h q => ⟨h, fun z => q ⟨z, h⟩⟩, fun _ h => .inl h.1, fun a h => r.trk a h.1, fun _ h => h⟩
  exact r.chg c (fun a h => h.2) (fun a h => hp a h.1) fun i hi a ha hq => n i hi a hq.1 ha
theorem ge_frz (h : GE X G e w) : GE X G e (wFrz w) := by
  refine ⟨pe_imp h.pe fun σ H Q ⟨T, env, F, r, q⟩ => ⟨T, env, F, r, h.mono _ _ _ (fun s e ⟨o, d, hs, hd, q⟩ v T1 H1 F1 fr a z => ?_) q⟩, fun env Q Q' i q => h.mono _ _ _ (fun s e ⟨o, d, hs, hd, q⟩ => ⟨o, d, hs, hd, i _ _ q⟩) q⟩
  subst hs
  have rel : Ow G.K T1 H1 o v fr := z.rel
  have zs := resS r z nofun
  have re := att_free a.re (zs.from_ o rfl) (z.dis o rfl)
  refine q v _ H1 F1 [] ⟨⟨a.chg.keep, fun x hx n => ⟨a.chg.tk x hx n, fun hf => ?_⟩, fun x hx => a.chg.tf x hx.1, re.trk, a.chg.dom⟩, re, a.own, a.vw⟩ (res_f (rel.frz hd))
  rcases z.from_ o rfl x hf with p | p
  · exact n p
  · exact r.trk x hx p
theorem set_none_own {i j : Nat} (h : IsOwn (env.set i none) j) : j ≠ i ∧ IsOwn env j := by
  obtain ⟨o, h⟩ := h
  rcases set_get h with ⟨_, e⟩ | ⟨n, e⟩
  · cases e
  · exact ⟨n, o, e⟩
theorem set_none_s {i j : Nat} (h : IsS (env.set i none) j) : j ≠ i ∧ IsS env j := by
  obtain ⟨o, h⟩ := h
  rcases set_get h with ⟨_, e⟩ | ⟨n, e⟩
  · cases e
  · exact ⟨n, o, e⟩
theorem ge_move {i : Nat} (h : PE X e (tVar i)) : GE X G e (wMove i) := by
  refine ⟨pe_imp h fun σ H Q ⟨T, env, F, r, o, d, ho, hd, q⟩ => ?_, fun env Q Q' i ⟨o, d, ho, hd, q⟩ => ⟨o, d, ho, hd, i _ _ q⟩⟩
  obtain ⟨v, h1, h2⟩ := r.slot i _ ho
  have h2 : Ow G.K T H o v (F i) := h2
  have own : ∀ a ∈ F i, OwnP env F a := fun a ha => ⟨i, ⟨o, ho⟩, ha⟩
  have re := att_free (fr := F i) (r.drop i) (fun a ha => r.ow a (own a ha)) fun j hj a ha hb => by
    obtain ⟨n, hj⟩ := set_none_s hj
    exact r.dis i j n.symm ⟨o, ho⟩ hj a ha hb
  refine ⟨v, h1, q v _ H F [] ⟨⟨fun _ _ h _ => h, fun x hx n => ⟨hx, fun hf => n (own x hf)⟩, fun x hx => .inl hx.1, re.trk, fun _ h => h⟩, re, fun a ⟨j, hj, ha⟩ => .inl ⟨j, (set_none_own hj).2, ha⟩, fun j o h => ?_⟩ (res_f (h2.frz hd))⟩
  rcases set_get h with ⟨_, e⟩ | ⟨n, e⟩
  · cases e
  · exact ⟨e, rfl⟩
/-! ### methods of an owned list at a slot -/
theorem FzL.erase {K : PySem.W.Frag} {H : Hp} {vs : List V} {ds : List D} (h : FzL K H vs ds) (j : Nat) : FzL K H (vs.eraseIdx j) (ds.eraseIdx j) := by
  induction ds generalizing vs j with
  | nil => cases h; exact .nil
  | cons d ds ih => cases h with
    | cons a b => cases j with
      | zero => exact b
      | succ j => exact .cons a (ih b j)
/-! ### x[i] = e at a slot that owns a list -/
def gSetL (k : Nat) (wi : WE) : WG := fun d env Q => (∃ s, env[k]? = some (some (.own (.lst s)))) ∧ wi env fun r e => ∃ i j ds, r = .f (.int i) ∧ e[k]? = some (some (.own (.lst ds))) ∧ ixN ds.length i = some j ∧ Q (e.set k (some (.own (.lst (ds.set j d)))))
theorem gg_setL {o i : Expr} {k : Nat} {wi : WE} {pos : Pos} (ho : PE X o (tVar k)) (hi : GE X G i wi)
    (ha : ∀ v, assign (.Subscript o i pos) X.env v = (do
      let ov ← holding [v] (eval o X.env)
      let iv ← holding [v, ov] (eval i X.env)
      standAt pos
      holding [v, ov, iv] (setItem ov iv v)
      release [v, ov, iv] []) := by intro _; rfl) : GG X G (.Subscript o i pos) (gSetL k wi) := by
  refine ⟨⟨fun pins s σ H v u Q I rv ⟨T, env, F, d, r, fz, ⟨s0, h0⟩, q⟩ => (pg_sub ho hi.pe set_list ha).run pins s σ H v u Q I rv ?_⟩, fun d env Q Q' ii ⟨h0, q⟩ => ⟨h0, hi.mono _ _ _ (fun s e ⟨i, j, ds, h1, h2, h3, q⟩ => ⟨i, j, ds, h1, h2, h3, ii _ q⟩) q⟩, fun _ _ _ q => q⟩
  obtain ⟨p0, vs0, s1, hp0, _, _⟩ := own_lst r h0
  refine ⟨_, s1, T, env, F, r, hi.mono _ _ _ (fun s e ⟨i, j, ds, h1, h2, h3, q⟩ y T1 H1 F1 fr a z => ?_) q⟩
  subst h1
  have zr := z.rel.1
  cases zr
  obtain ⟨p, vs, s2, hp, f1, upd_⟩ := own_lst a.re h2
  rw [s1] at s2
  cases s2
  have a2 := upd_ (vs.set j v) (ds.set j d) (f1.set (Fz.att r a fz) j)
  exact ⟨p0, vs, i, j, rfl, rfl, hp, by rw [f1.length]; exact h3, q σ T1 _ F1 a2.re ((a.chg.hid r.sub).trans (a2.chg.hid a.re.sub))⟩
/-! x[i] op= e -/
structure IpX (X : Cx) (G : Gx) (op : Operator) (o : Op2) : Prop where
  ok : PIp X op (rO G o)
  mono : MonoO o
/-- name op= e -/
def wAug (i : Nat) (we : WE) (o : Op2) : WS := fun D env => ∃ d, env[i]? = some (some (.f d)) ∧ we env fun r e => ∃ d2, r = .f d2 ∧ o d d2 fun d3 => i < e.length ∧ D.nx (e.set i (some (.f d3)))
theorem gs_aug {st : Stmt} {i : Nat} {we : WE} {op : Operator} {o2 : Op2} (h : PS X st (tAug i (tW G we) (rO G o2))) (he : MonoE we) (mo : MonoO o2) (hp : G.prot i = false) : GS X G st (wAug i we o2) := by
  refine ⟨ps_imp h fun D σ H ⟨T, env, F, r, d, hd, q⟩ => ?_, fun D D' env l ⟨d, hd, q⟩ => ⟨d, hd, he _ _ _ (fun s e ⟨d2, g1, q⟩ => ⟨d2, g1, mo _ _ _ _ (fun d3 ⟨hi, q⟩ => ⟨hi, l.nx _ q⟩) q⟩) q⟩⟩
  obtain ⟨v, h1, h2⟩ := r.slot i _ hd
  refine ⟨v, h1, T, env, F, r, he _ _ _ (fun s e ⟨d2, g1, q⟩ y T1 H1 F1 fr a z => ?_) q⟩
  subst g1
  refine ⟨T1, d, d2, a.re.trk, Cz.of (Fz.att r a h2.1), Cz.of z.rel.1, mo _ _ _ _ (fun d3 ⟨hi, q⟩ w H2 e2 f2 => ?_) q⟩
  exact q _ T1 H2 _ ((a.re.ex e2).store (r := .f d3) i (by rw [← a.re.len]; exact hi) hp nofun (fr := []) ⟨f2, rfl⟩ nofun nofun) ((a.chg.hid r.sub).trans (hid_mono e2))
end
end Fx

namespace Fx
open PySem PySem.Spec PyProof.Rows L2 Evl Lk

/-! ### comprehensions: the list that is made is owned -/
inductive Tgt where
  | name (j : Nat) | tup (js : List Nat)
def gNames : List Nat → TGs
  | [] => gNil
  | j :: js => gCons (gName j) (gNames js)
def Tgt.tg (K : PySem.W.Frag) : Tgt → TG
  | .name j => gName j
  | .tup js => gTup K js.length (gNames js)
def Tgt.js : Tgt → List Nat
  | .name j => [j]
  | .tup js => js
def Tgt.get : Tgt → D → Option (List D)
  | .name _, d => some [d]
  | .tup js, .tup ds => if ds.length = js.length then some ds else none
  | .tup _, _ => none
def setS : L2.St → List Nat → List V → L2.St
  | σ, j :: js, v :: vs => setS (σ.set j (some v)) js vs
  | σ, _, _ => σ
def setE : Env → List Nat → List D → Env
  | e, j :: js, d :: ds => setE (e.set j (some (.f d))) js ds
  | e, _, _ => e
def wipeE : Env → List Nat → Env
  | e, [] => e
  | e, v :: vs => (wipeE e vs).set v none
theorem gNames_of {σ : L2.St} {H : Hp} {R : L2.St → Hp → Prop} : ∀ {js : List Nat} {vs : List V} {σ : L2.St}, vs.length = js.length → R (setS σ js vs) H → gNames js vs σ H R
  | [], [], _, _, q => ⟨rfl, q⟩
  | [], _ :: _, _, h, _ => by cases h
  | _ :: _, [], _, h, _ => by cases h
  | j :: js, v :: vs, σ, h, q => ⟨v, vs, rfl, gNames_of (σ := σ) (js := js) (by simpa using h) q⟩
theorem setS_len : ∀ (js : List Nat) (vs : List V) (σ : L2.St), (setS σ js vs).length = σ.length
  | [], vs, σ => by cases vs <;> rfl
  | j :: js, [], σ => rfl
  | j :: js, v :: vs, σ => by rw [setS, setS_len js vs, List.length_set]
theorem setS_out : ∀ {js : List Nat} {vs : List V} {σ : L2.St} {i : Nat}, i ∉ js → (setS σ js vs)[i]? = σ[i]?
  | [], vs, σ, i, h => by cases vs <;> rfl
  | j :: js, [], σ, i, h => rfl
  | j :: js, v :: vs, σ, i, h => by
    have n : j ≠ i := fun e => h (by rw [e]; exact List.mem_cons_self ..)
    rw [setS, setS_out (fun z => h (List.mem_cons_of_mem _ z)), List.getElem?_set_ne n]
theorem wipe_get {σ : L2.St} : ∀ {vs : List Nat} {i : Nat}, (wipe σ vs)[i]? = if i ∈ vs then (if i < σ.length then some none else none) else σ[i]?
  | [], i => by simp [wipe]
  | v :: vs, i => by
    by_cases e : i = v
    · subst e
      rw [if_pos (List.mem_cons_self ..), wipe]
      by_cases hl : i < σ.length
      · rw [if_pos hl, List.getElem?_set_self (by rw [wipe_length]; exact hl)]
      · rw [if_neg hl, List.getElem?_eq_none (by rw [List.length_set, wipe_length]; omega)]
    · rw [wipe, List.getElem?_set_ne (Ne.symm e), wipe_get (vs := vs)]
      by_cases h : i ∈ vs
      · rw [if_pos h, if_pos (List.mem_cons_of_mem _ h)]
      · rw [if_neg h, if_neg (fun z => (List.mem_cons.mp z).elim e h)]
theorem wipe_eq {σ1 σ2 : L2.St} {vs : List Nat} (hl : σ1.length = σ2.length) (h : ∀ i, i ∉ vs → σ1[i]? = σ2[i]?) : wipe σ1 vs = wipe σ2 vs := by
  refine List.ext_getElem? fun i => ?_
  rw [wipe_get, wipe_get]
  by_cases hi : i ∈ vs
  · rw [if_pos hi, if_pos hi, hl]
  · rw [if_neg hi, if_neg hi, h i hi]
theorem wipeE_some {e : Env} {s : Sl} : ∀ {vs : List Nat} {i : Nat}, (wipeE e vs)[i]? = some (some s) → e[i]? = some (some s) ∧ i ∉ vs
  | [], i, h => ⟨h, by simp⟩
  | v :: vs, i, h => by
    rw [wipeE] at h
    rcases set_get h with ⟨_, e⟩ | ⟨n, h⟩
    · cases e
    · obtain ⟨h1, h2⟩ := wipeE_some h
      exact ⟨h1, fun z => (List.mem_cons.mp z).elim n h2⟩
theorem wipeE_len (e : Env) : ∀ vs : List Nat, (wipeE e vs).length = e.length
  | [] => rfl
  | v :: vs => by rw [wipeE, List.length_set, wipeE_len e vs]
section
variable {G : Gx} {T T1 : Addr → Prop} {H H1 : Hp} {σ σ' : L2.St} {env env1 e : Env} {F F1 : Nat → List Addr}
theorem RE.wipeE (r : RE G T H σ env F) (vs : List Nat) : RE G T H σ (wipeE env vs) F := by
  induction vs with
  | nil => exact r
  | cons v vs ih => exact ih.drop v
/-- other slots' values, where nothing is known -/
theorem RE.sigma (r : RE G T H σ (Fx.wipeE e vs) F) (hl : σ'.length = σ.length) (h : ∀ i, i ∉ vs → σ'[i]? = σ[i]?) (hp : ∀ i ∈ vs, G.prot i = false) : RE G T H σ' (Fx.wipeE e vs) F :=
  ⟨r.trk, r.tab, fun i s hi => by
    obtain ⟨v, h1, h2⟩ := r.slot i s hi
    exact ⟨v, by rw [h i (wipeE_some hi).2]; exact h1, h2⟩, r.dis, r.st, r.ow, r.t0, fun i hi => by
    rw [h i (fun z => by rw [hp i z] at hi; cases hi)]
    exact r.pin i hi, by rw [hl]; exact r.len, r.hx⟩
theorem RE.names {js : List Nat} (hp : ∀ i, i ∈ js → G.prot i = false) : ∀ {js' : List Nat} {ds : List D} {vs : List V} {σ : L2.St} {env : Env} {F : Nat → List Addr}, (∀ i ∈ js', i ∈ js) → RE G T H σ env F → FzL G.K (hid T H) vs ds → (∀ j ∈ js', j < σ.length) →
    ∃ F', RE G T H (setS σ js' vs) (setE env js' ds) F' ∧ ∀ k, k ∉ js' → F' k = F k
  | [], ds, vs, σ, env, F, _, r, f, _ => by
    cases vs <;> cases ds <;> exact ⟨F, r, fun _ _ => rfl⟩
  | j :: js', ds, vs, σ, env, F, sub, r, f, hl => by
    cases f with
    | nil => exact ⟨F, r, fun _ _ => rfl⟩
    | cons a b =>
      have r2 := r.store (r := .f _) j (hl j (List.mem_cons_self ..)) (hp j (sub j (List.mem_cons_self ..))) nofun (fr := []) ⟨a, rfl⟩ nofun nofun
      obtain ⟨F', r3, h3⟩ := RE.names hp (fun i hi => sub i (List.mem_cons_of_mem _ hi)) r2 b fun k hk => by rw [List.length_set]; exact hl k (List.mem_cons_of_mem _ hk)
      refine ⟨F', r3, fun k hk => ?_⟩
      rw [h3 k (fun z => hk (List.mem_cons_of_mem _ z)), upF_ne (fun z => hk (by rw [z]; exact List.mem_cons_self ..))]
theorem setE_s : ∀ {js : List Nat} {ds : List D} {env : Env} {i : Nat} {s : Sl}, (setE env js ds)[i]? = some (some s) → (i ∈ js ∧ ∃ d, s = .f d) ∨ env[i]? = some (some s)
  | [], ds, env, i, s, h => by cases ds <;> exact .inr h
  | j :: js, [], env, i, s, h => .inr h
  | j :: js, d :: ds, env, i, s, h => by
    rcases setE_s (js := js) (ds := ds) h with ⟨a, b⟩ | h
    · exact .inl ⟨List.mem_cons_of_mem _ a, b⟩
    · rcases set_get h with ⟨e, z⟩ | ⟨_, h⟩
      · cases z
        exact .inl ⟨by rw [e]; exact List.mem_cons_self .., d, rfl⟩
      · exact .inr h
end
/-- [e for t in xs if c]; vs: the comprehension's own slots -/
def wLc (wi : WI) (tg : Tgt) (vs : List Nat) (t : WT) (w : WE) : WE := fun env Q => wi env fun ds e0 => ds.length ≤ 100000 ∧ ∃ J : Nat → List D → Env → Prop, J 0 [] e0 ∧
  (∀ i d acc e, ds[i]? = some d → J i acc e → ∃ xs, tg.get d = some xs ∧ t (setE (wipeE e vs) tg.js xs) fun b e2 => if b = true then w e2 fun r e3 => ∃ d', r = .f d' ∧ J (i + 1) (acc ++ [d']) e3 else J (i + 1) acc e2) ∧
  ∀ acc e, J ds.length acc e → Q (.own (.lst acc)) (wipeE e vs)
def wYes : WT := fun env Q => Q true env
section
variable {X : Cx} {G : Gx} {elt iter : Expr} {wi : WI} {tg : Tgt} {vs : List Nat} {t : WT} {w : WE}
theorem lcW {tt : TT} (hi : MonoI wi) (hw : MonoE w) (htt : ∀ σ H Q, tWT G t σ H Q → tt σ H Q) (mt : MonoT t) (hsub : ∀ j ∈ tg.js, j ∈ vs) (hp : ∀ i ∈ vs, G.prot i = false) {σ : L2.St} (hlen : ∀ i ∈ vs, i < σ.length) {H : Hp} {Q : VK} (h : tW G (wLc wi tg vs t w) σ H Q) :
    tLc (tWI G wi) (tg.tg G.K) tt (tW G w) vs σ H Q := by
  obtain ⟨T, env, F, r, q⟩ := h
  refine ⟨T, env, F, r, hi _ _ _ (fun ds e0 ⟨hz, J, j0, js, jd⟩ It T1 H1 F1 Bs a it b0 => ?_) q⟩
  intro Dl nD
  have Hnone : H Dl = none := by
    cases e : H Dl with
    | none => rfl
    | some u => exact absurd nD (a.chg.dom Dl (by rw [e]; exact nofun))
  have G0none : G.P0 Dl ∨ G.H0 Dl = none := .inr (by
    cases e : G.H0 Dl with
    | none => rfl
    | some u => exact absurd Hnone (r.st.dom Dl (by rw [e]; exact nofun)))
  -- one state between two turns
  let S : Nat → Hp → Prop := fun i H' => ∃ T' env' F' acc vacc, Att G σ T H env F T' H' (wipeE env' vs) F' ∧ Bs T' H' ∧ T' Dl ∧ H' Dl = some (.lst vacc) ∧ FzL G.K (hid T' H') vacc acc ∧ (∀ k, IsS (wipeE env' vs) k → Dl ∉ F' k) ∧ acc.length ≤ i ∧ J i acc env'
  have start : S 0 (upd H1 Dl (.lst [])) := by
    have a1 := att_new (o := HO.lst []) a.re nD
    have re := a1.re.wipeE vs
    refine ⟨_, e0, F1, [], [], ⟨(a.trans r.trk a1).chg, re, fun x ⟨k, ⟨o, hk⟩, hx⟩ => a.own x ⟨k, ⟨o, (wipeE_some hk).1⟩, hx⟩, fun k o hk => a.vw k o (wipeE_some hk).1⟩, it.keep _ _ _ _ b0 (hid_new nD), .inr rfl, upd_same, .nil, fun k ⟨s, hk⟩ hF => ?_, Nat.le_refl _, j0⟩
    obtain ⟨v, _, z⟩ := a.re.slot k s (wipeE_some hk).1
    exact a.re.trk Dl (z.sub Dl hF) nD
  refine ⟨fun i m H' => m = ds.length - i ∧ i ≤ ds.length ∧ S i H', ⟨_, rfl, Nat.zero_le _, start⟩, ?_⟩
  rintro i m H' ⟨rfl, hi', T', env', F', acc, vacc, a', b', tD, hD, fa, nF, hacc, j'⟩
  by_cases hlt : i < ds.length
  · obtain ⟨go, yl⟩ := it.go i T' H' a'.re.trk b' hlt
    refine .inr ⟨go, S (i + 1), fun H2 s2 => ⟨ds.length - (i + 1), by omega, rfl, hlt, s2⟩, fun x H2 y => ?_⟩
    obtain ⟨d, hd, ex, fz⟩ := yl x H2 y
    obtain ⟨xs, hx, jt⟩ := js i d acc env' hd j'
    -- the target's slots
    have re2 : RE G T' H2 (wipe σ vs) (wipeE env' vs) F' := (a'.re.ex ex).sigma (wipe_length σ vs) (fun k hk => by rw [wipe_get, if_neg hk]) hp
    have lw : ∀ j ∈ tg.js, j < (wipe σ vs).length := fun j hj => by rw [wipe_length]; exact hlen j (hsub j hj)
    have go2 : ∀ R : L2.St → Hp → Prop, (∀ ws F2, RE G T' H2 (setS (wipe σ vs) tg.js ws) (setE (wipeE env' vs) tg.js xs) F2 → (∀ k, k ∉ tg.js → F2 k = F' k) → R (setS (wipe σ vs) tg.js ws) H2) → tg.tg G.K x (wipe σ vs) H2 R := by
      intro R k
      cases tg with
      | name j =>
        have hx : some [d] = some xs := hx
        cases hx
        obtain ⟨F2, r2, f2⟩ := RE.names (js := vs) hp (js' := [j]) hsub re2 (.cons fz .nil) lw
        exact k [x] F2 r2 f2
      | tup ks =>
        cases d with
        | tup ds' =>
          have hx : (if ds'.length = ks.length then some ds' else none) = some xs := hx
          by_cases hl : ds'.length = ks.length
          · rw [if_pos hl] at hx
            cases hx
            cases fz with
            | tup l fl =>
              rename_i p ws
              obtain ⟨F2, r2, f2⟩ := RE.names (js := vs) hp (js' := ks) hsub re2 fl lw
              exact ⟨_, _, rfl, ex_t hid_ex l, fl.length.trans hl, gNames_of (σ := wipe σ vs) (fl.length.trans hl) (k ws F2 r2 f2)⟩
          · rw [if_neg hl] at hx
            cases hx
        | _ => cases hx
    refine go2 _ fun ws F2 r2 f2 => ?_
    generalize hσ : setS (wipe σ vs) tg.js ws = σ2 at r2
    have sg : ∀ k, k ∉ vs → σ2[k]? = σ[k]? := fun k hk => by
      rw [← hσ, setS_out (fun z => hk (hsub k z)), wipe_get, if_neg hk]
    have ln : σ2.length = σ.length := by rw [← hσ, setS_len, wipe_length]
    refine ⟨wipe_eq ln sg, ?_⟩
    generalize henv : setE (wipeE env' vs) tg.js xs = env2 at r2 jt
    -- slots of the turn
    have sl2 : ∀ k s, env2[k]? = some (some s) → ((∃ d, s = .f d) ∧ F2 k = []) ∨ ((wipeE env' vs)[k]? = some (some s) ∧ F2 k = F' k) := fun k s h => by
      rw [← henv] at h
      rcases setE_s h with ⟨_, d, e⟩ | h'
      · subst e
        rw [henv] at h
        obtain ⟨v, _, z⟩ := r2.slot k _ h
        exact .inl ⟨⟨d, rfl⟩, z.2⟩
      · exact .inr ⟨h', f2 k fun z => (wipeE_some h').2 (hsub k z)⟩
    have own2 : ∀ a, OwnP env2 F2 a → OwnP (wipeE env' vs) F' a := fun a ⟨k, ⟨o, hk⟩, ha⟩ => by
      rcases sl2 k _ hk with ⟨⟨d, e⟩, _⟩ | ⟨h, e⟩
      · cases e
      · exact ⟨k, ⟨o, h⟩, by rw [← e]; exact ha⟩
    have n2 : ∀ k, IsS env2 k → ∀ y ∈ [Dl], y ∉ F2 k := fun k ⟨s, hk⟩ y hy hF => by
      rw [List.mem_singleton.mp hy] at hF
      rcases sl2 k s hk with ⟨_, e⟩ | ⟨h, e⟩
      · rw [e] at hF; cases hF
      · rw [e] at hF; exact nF k ⟨s, h⟩ hF
    have nP : ¬ OwnP env2 F2 Dl := fun ⟨k, ⟨o, hk⟩, hF⟩ => n2 k ⟨_, hk⟩ Dl (List.mem_singleton.mpr rfl) hF
    have step : ∀ (T4 : Addr → Prop) (H4 : Hp) (e3 : Env) (F4 : Nat → List Addr), Att G σ2 T' H2 env2 F2 T4 H4 e3 F4 → Att G σ T H env F T4 H4 (wipeE e3 vs) F4 ∧ Ex (hid T' H') (hid T4 H4) ∧ T4 Dl ∧ H4 Dl = some (.lst vacc) ∧ (∀ k, IsS (wipeE e3 vs) k → Dl ∉ F4 k) := fun T4 H4 e3 F4 a4 => by
      have out := att_out (fr := [Dl]) r2.trk a4 (fun y hy => by rw [List.mem_singleton.mp hy]; exact tD) n2
      have c1 : Chg T' H' (OwnP (wipeE env' vs) F') T' H2 := ⟨fun a o h _ => ex a o h, fun _ h _ => h, fun _ h => .inl h, r2.trk, ex_dom ex⟩
      have domN : ∀ a, H2 a = none → H a = none := fun a h => by
        cases e : H a with
        | none => rfl
        | some u =>
          have h1 := a'.chg.dom a (by rw [e]; exact nofun)
          exact absurd h (ex_dom ex a h1)
      refine ⟨⟨(a'.chg.trans r.trk c1 a'.own).trans r.trk a4.chg fun a ha => a'.own a (own2 a ha), (a4.re.wipeE vs).sigma ln.symm (fun k hk => (sg k hk).symm) hp, fun a ⟨k, ⟨o, hk⟩, ha⟩ => ?_, fun k o hk => ?_⟩, (hid_mono ex).trans (a4.chg.hid r2.sub), a4.chg.tk Dl tD nP, a4.chg.keep Dl _ (ex Dl _ hD) nP, fun k ⟨s, hk⟩ hF => out k ⟨s, (wipeE_some hk).1⟩ Dl (List.mem_singleton.mpr rfl) hF⟩
      · rcases a4.own a ⟨k, ⟨o, (wipeE_some hk).1⟩, ha⟩ with h | h
        · exact a'.own a (own2 a h)
        · exact .inr (domN a h)
      · obtain ⟨h1, h2⟩ := a4.vw k o (wipeE_some hk).1
        rcases sl2 k _ h1 with ⟨⟨d, e⟩, _⟩ | ⟨h, e⟩
        · cases e
        · obtain ⟨h3, h4⟩ := a'.vw k o h
          exact ⟨h3, (h2.trans e).trans h4⟩
    refine htt _ _ _ ⟨T', env2, F2, r2, mt _ _ _ (fun b e2 q T3 H3 F3 a3 => ?_) jt⟩
    cases b with
    | false =>
      have q : J (i + 1) acc e2 := q
      obtain ⟨s1, s2, s3, s4, s5⟩ := step T3 H3 e2 F3 a3
      exact ite_ff ⟨T3, e2, F3, acc, vacc, s1, it.keep _ _ _ _ b' s2, s3, s4, fa.ex s2, s5, Nat.le_succ_of_le hacc, q⟩
    | true =>
      refine ite_tt ⟨T3, e2, F3, a3.re, hw _ _ _ (fun s e3 ⟨d', hs, j4⟩ y T4 H4 F4 fr4 a4 z4 => ?_) q⟩
      subst hs
      obtain ⟨s1, s2, s3, s4, s5⟩ := step T4 H4 e3 F4 (a3.trans r2.trk a4)
      have c5 : Chg T4 H4 (fun a => a = Dl) T4 (upd H4 Dl (.lst (vacc ++ [y]))) := Chg.write a4.re.trk rfl
      have sub5 : Sub T4 (fun a => a = Dl) := fun a h => by rw [h]; exact s3
      have x5 := c5.hid sub5
      refine ⟨vacc, s4, Nat.lt_of_le_of_lt (Nat.le_of_eq fa.length) (Nat.lt_of_le_of_lt hacc (Nat.lt_of_lt_of_le hlt (Nat.le_trans hz (by decide)))), T4, e3, F4, acc ++ [d'], vacc ++ [y], ⟨s1.chg.trans r.trk c5 (fun a h => by rw [h]; exact .inr Hnone), s1.re.chg c5 sub5 (fun a h => by rw [h]; exact G0none) fun k hk a ha h => s5 k hk (by rw [← h]; exact ha), s1.own, s1.vw⟩, it.keep _ _ _ _ b' (s2.trans x5), s3, upd_same, ((fa.ex s2).append (.cons z4.rel.1 .nil)).ex x5, s5, by rw [List.length_append]; exact Nat.succ_le_succ hacc, j4⟩
  · have e : i = ds.length := by omega
    subst e
    refine .inl ⟨it.stop _ T' H' b' rfl, ?_⟩
    refine jd acc env' j' (.ref Dl) T' H' F' [Dl] a' ⟨.lst tD hD fa, fun o _ k hk x hx hF => ?_, fun o _ x hx => ?_⟩
    · rw [List.mem_singleton.mp hx] at hF
      exact nF k hk hF
    · rw [List.mem_singleton.mp hx]
      exact .inr Hnone
end
end Fx

namespace Fx
open PySem PySem.Spec PyProof.Rows L2 Evl Lk

/-! ### comprehensions: the rules -/
section
variable {X : Cx} {G : Gx} {e : Expr} {st : Stmt} {wi : WI} {tg : Tgt} {vs : List Nat} {t : WT} {w : WE}
theorem pe_impN {t t' : TE} (h : PE X e t) (i : ∀ σ H Q, σ.length = X.N.length → t' σ H Q → t σ H Q) : PE X e t' := ⟨fun pins s σ H Q I q => h.run pins s σ H Q I (i σ H Q I.len q)⟩
theorem ps_impN {t t' : TS} (h : PS X st t) (i : ∀ D σ H, σ.length = X.N.length → t' D σ H → t D σ H) : PS X st t' := ⟨fun pins s σ H D I q => h.run pins s σ H D I (i D σ H I.len q)⟩
theorem mono_lc (mi : MonoI wi) : MonoE (wLc wi tg vs t w) := fun env Q Q' i q => mi _ _ _ (fun ds e0 ⟨hz, J, j0, js, jd⟩ => ⟨hz, J, j0, js, fun acc e hj => i _ _ (jd acc e hj)⟩) q
theorem tt_yes {σ : L2.St} {H : Hp} {Q : Bool → Hp → Prop} (h : tWT G wYes σ H Q) : tYes σ H Q := by
  obtain ⟨T, env, F, r, q⟩ := h
  exact q T H F (.refl r)
theorem mono_yes : MonoT wYes := fun _ _ _ i q => i _ _ q
theorem ge_lc {tt : TT} (h : PE X e (tLc (tWI G wi) (tg.tg G.K) tt (tW G w) vs)) (mi : MonoI wi) (mw : MonoE w) (htt : ∀ σ H Q, tWT G t σ H Q → tt σ H Q) (mt : MonoT t) (hsub : ∀ j ∈ tg.js, j ∈ vs) (hp : ∀ i ∈ vs, G.prot i = false) (hN : ∀ i ∈ vs, i < X.N.length) : GE X G e (wLc wi tg vs t w) :=
  ⟨pe_impN h fun σ H Q hl q => lcW mi mw htt mt hsub hp (fun i hi => by rw [hl]; exact hN i hi) q, mono_lc mi⟩
theorem frzW {σ : L2.St} {H : Hp} {Q : VK} (hm : MonoE w) (h : tW G (wFrz w) σ H Q) : tW G w σ H Q := by
  obtain ⟨T, env, F, r, q⟩ := h
  refine ⟨T, env, F, r, hm _ _ _ (fun s e ⟨o, d, hs, hd, q⟩ v T1 H1 F1 fr a z => ?_) q⟩
  subst hs
  have rel : Ow G.K T1 H1 o v fr := z.rel
  have zs := resS r z nofun
  have re := att_free a.re (zs.from_ o rfl) (z.dis o rfl)
  refine q v _ H1 F1 [] ⟨⟨a.chg.keep, fun x hx n => ⟨a.chg.tk x hx n, fun hf => ?_⟩, fun x hx => a.chg.tf x hx.1, re.trk, a.chg.dom⟩, re, a.own, a.vw⟩ (res_f (rel.frz hd))
  rcases z.from_ o rfl x hf with p | p
  · exact n p
  · exact r.trk x hx p
theorem mono_frz (hm : MonoE w) : MonoE (wFrz w) := fun env Q Q' i q => hm _ _ _ (fun s e ⟨o, d, hs, hd, q⟩ => ⟨o, d, hs, hd, i _ _ q⟩) q
/-- name = [..] : owned; let go -/
theorem gs_setLc {tt : TT} {i : Nat} (h : PS X st (tAsg (tLc (tWI G wi) (tg.tg G.K) tt (tW G w) vs) (gName i))) (mi : MonoI wi) (mw : MonoE w) (htt : ∀ σ H Q, tWT G t σ H Q → tt σ H Q) (mt : MonoT t) (hsub : ∀ j ∈ tg.js, j ∈ vs) (hp : ∀ i ∈ vs, G.prot i = false) (hN : ∀ i ∈ vs, i < X.N.length) (hpi : G.prot i = false) : GS X G st (wSet i (wLc wi tg vs t w)) :=
  gs_set (ps_impN h fun D σ H hl q => lcW mi mw htt mt hsub hp (fun i hi => by rw [hl]; exact hN i hi) q) (mono_lc mi) hpi
theorem gs_setLcF {tt : TT} {i : Nat} (h : PS X st (tAsg (tLc (tWI G wi) (tg.tg G.K) tt (tW G w) vs) (gName i))) (mi : MonoI wi) (mw : MonoE w) (htt : ∀ σ H Q, tWT G t σ H Q → tt σ H Q) (mt : MonoT t) (hsub : ∀ j ∈ tg.js, j ∈ vs) (hp : ∀ i ∈ vs, G.prot i = false) (hN : ∀ i ∈ vs, i < X.N.length) (hpi : G.prot i = false) : GS X G st (wSet i (wFrz (wLc wi tg vs t w))) :=
  gs_set (ps_impN h fun D σ H hl q => lcW mi mw htt mt hsub hp (fun i hi => by rw [hl]; exact hN i hi) (frzW (mono_lc mi) q)) (mono_frz (mono_lc mi)) hpi
end

/-! ### values as the library's data -/
mutual
def D.py : D → PyData
  | .non => .none
  | .bl b => .bool b
  | .int i => .int i
  | .str x => .str x
  | .lst ds => .list (D.pyL ds)
  | .tup ds => .tuple (D.pyL ds)
  | .ty _ => .dict []
  | .dic _ _ => .dict []
def D.pyL : List D → List PyData
  | [] => []
  | d :: ds => d.py :: D.pyL ds
end
mutual
theorem dp_of {K : PySem.W.Frag} {H : Hp} : ∀ {d : D} {v : V}, Fz K H v d → d.py.canLay0 = true → Dp K H v d.py
  | .non, _, h, _ => by cases h; exact .non
  | .bl b, _, h, _ => by cases h; exact .bl b
  | .int i, _, h, _ => by cases h; exact .int i
  | .str x, _, h, _ => by cases h; exact .str x
  | .lst ds, _, h, l => by cases h with | lst a b => exact .lst a (dpL_of b (by simpa [D.py, PyData.canLay0] using l))
  | .tup ds, _, h, l => by cases h with | tup a b => exact .tup a (dpL_of b (by simpa [D.py, PyData.canLay0] using l))
  | .ty n, _, h, l => by simp [D.py, PyData.canLay0] at l
  | .dic ks ds, _, h, l => by simp [D.py, PyData.canLay0] at l
theorem dpL_of {K : PySem.W.Frag} {H : Hp} : ∀ {ds : List D} {vs : List V}, FzL K H vs ds → PyData.canLayAll0 (D.pyL ds) = true → DpAll K H vs (D.pyL ds)
  | [], _, h, _ => by cases h; exact .nil
  | d :: ds, _, h, l => by
    cases h with
    | cons a b =>
      have l' : d.py.canLay0 = true ∧ PyData.canLayAll0 (D.pyL ds) = true := by simpa [D.pyL, PyData.canLayAll0] using l
      exact .cons (dp_of a l'.1) (dpL_of b l'.2)
end
def okPy (d : D) : Bool := SeqAt.shaped d.py
theorem dp_ok {K : PySem.W.Frag} {H : Hp} {d : D} {v : V} (h : Fz K H v d) (l : okPy d = true) : Dp K H v d.py := dp_of h (SeqAt.canLay_of_shaped l)

/-! ### operations -/
section
variable {X : Cx} {G : Gx}
def dAdd : Op2
  | .int i, .int j, Q => Q (.int (i + j))
  | .str x, .str y, Q => x.length + y.length ≤ sizeLine ∧ Q (.str (x ++ y))
  | .lst a, .lst b, Q => a.length + b.length ≤ sizeLine ∧ Q (.lst (a ++ b))
  | .tup a, .tup b, Q => a.length + b.length ≤ sizeLine ∧ Q (.tup (a ++ b))
  | _, _, _ => False
/-- two lists of any kind -/
theorem cat_any {pins : List (Addr × Obj)} {s : Shared} {σ : L2.St} {H : Hp} {a b : Addr} {xs ys : List V} {Q : VK} (I : Inv X pins σ H s) (ha : SqL X.K H a xs) (hb : SqL X.K H b ys) (hz : xs.length + ys.length ≤ sizeLine)
    (q : ∀ p, H p = none → Q (.ref p) (upd H p (.lst (xs ++ ys)))) : wpAny (model X.prog X.w) X.A (binaryOp .Add (.ref a) (.ref b)) (EP X pins σ Q) X.xe s := by
  obtain ⟨its, r, ⟨o1, n1, e1, c1, d1, t1⟩, _⟩ := I.list ha
  obtain ⟨its2, r2, ⟨o2, n2, e2, c2, d2, t2⟩, _⟩ := I.list hb
  obtain ⟨cls, dd, data, sl⟩ := o1
  obtain ⟨cls2, dd2, data2, sl2⟩ := o2
  simp only at c1 t1 c2 t2
  subst c1 t1 c2 t2
  have l1 := r.length
  have l2 := r2.length
  have e : its.toArray ++ its2.toArray = (its ++ its2).toArray := by simp
  refine concat_meets ⟨_, e1, rfl⟩ ⟨_, e2, rfl⟩ noFill_list_add seq_list_add PySem.F.slot_list_add PySem.F.entry_list_add (PySem.F.args_list_add_2 _ _) (list_addW a b its.toArray its2.toArray n1 n2 dd dd2 sl sl2 (by simp; omega)) ⟨e1, e2, ?_⟩
  rw [e]
  exact ⟨.ref _, _, I.lnew (t' := s.toks) (r.append r2) (by rw [List.length_append]; omega), rfl, q _ I.fresh⟩
theorem fz_new_l {T : Addr → Prop} {H : Hp} {p : Addr} {vs : List V} {ds : List D} {K : PySem.W.Frag} (t : Trk T H) (np : H p = none) (f : FzL K (hid T H) vs ds) : Fz K (hid T (upd H p (.lst vs))) (.ref p) (.lst ds) := .lst (SqL.of (hid_of upd_same (nT t np))) (f.ex (hid_mono (Ex.new np)))
theorem fz_new_t {T : Addr → Prop} {H : Hp} {p : Addr} {vs : List V} {ds : List D} {K : PySem.W.Frag} (t : Trk T H) (np : H p = none) (f : FzL K (hid T H) vs ds) : Fz K (hid T (upd H p (.tup vs))) (.ref p) (.tup ds) := .tup (SqT.of (hid_of upd_same (nT t np))) (f.ex (hid_mono (Ex.new np)))
theorem opx_add (hK : X.K = G.K := by rfl) : OpX X G (binaryOp .Add) dAdd := by
  refine ⟨fun pins s σ H x y v u Q I rx ry ⟨T, d1, d2, t, c1, c2, q⟩ => ?_, fun a b Q Q' i q => ?_⟩
  · cases d1 with
    | int i =>
      cases d2 with
      | int j =>
        cases c1
        cases c2
        exact op_add pins s σ H _ _ v u Q I rx ry ⟨i, j, rfl, rfl, q _ H (Ex.refl H) (.int _)⟩
      | _ => exact (show False from q).elim
    | str a =>
      cases d2 with
      | str b =>
        cases c1
        cases c2
        exact op_add_str pins s σ H _ _ v u Q I rx ry ⟨a, b, rfl, rfl, q.1, q.2 _ H (Ex.refl H) (.str _)⟩
      | _ => exact (show False from q).elim
    | lst a =>
      cases d2 with
      | lst b =>
        obtain ⟨p1, vs, rfl, l1, f1⟩ := c1
        obtain ⟨p2, ws, rfl, l2, f2⟩ := c2
        cases rx
        cases ry
        refine cat_any I (by rw [hK]; exact l1) (by rw [hK]; exact l2) (by rw [f1.length, f2.length]; exact q.1) fun p np => ?_
        exact q.2 _ _ (Ex.new np) (fz_new_l t np (f1.append f2))
      | _ => exact (show False from q).elim
    | tup a =>
      cases d2 with
      | tup b =>
        cases c1 with
        | tup l1 f1 =>
          cases c2 with
          | tup l2 f2 =>
            have k1 := ex_t hid_ex l1
            have k2 := ex_t hid_ex l2
            refine op_catA pins s σ H _ _ v u Q I rx ry ⟨_, _, _, _, rfl, rfl, by rw [hK]; exact k1, by rw [hK]; exact k2, by rw [f1.length, f2.length]; exact q.1, fun e => ?_, fun n e => ?_, fun _ _ p np => ?_⟩
            · have q2 := q.2
              subst e
              cases f1
              exact q2 _ H (Ex.refl H) (.tup l2 f2)
            · have q2 := q.2
              subst e
              cases f2
              rw [List.append_nil] at q2
              exact q2 _ H (Ex.refl H) (.tup l1 f1)
            · exact q.2 _ _ (Ex.new np) (fz_new_t t np (f1.append f2))
      | _ => exact (show False from q).elim
    | _ => exact (show False from q).elim
  · cases a <;> cases b <;> first | exact i _ q | exact ⟨q.1, i _ q.2⟩ | exact q
/-- ints in, an int out -/
def dII (C : Int → Int → Prop) (g : Int → Int → Int) : Op2
  | .int i, .int j, Q => C i j ∧ Q (.int (g i j))
  | _, _, _ => False
theorem opx_ii {f : Value → Value → Sem Value} {C : Int → Int → Prop} {g : Int → Int → Int} (h : OpR X f (rI C fun i j => .int (g i j))) : OpX X G f (dII C g) := by
  refine ⟨fun pins s σ H x y v u Q I rx ry ⟨T, d1, d2, t, c1, c2, q⟩ => ?_, fun a b Q Q' i q => ?_⟩
  · cases d1 with
    | int i =>
      cases d2 with
      | int j =>
        cases c1
        cases c2
        exact h pins s σ H _ _ v u Q I rx ry ⟨i, j, rfl, rfl, q.1, q.2 _ H (Ex.refl H) (.int _)⟩
      | _ => exact (show False from q).elim
    | _ => exact (show False from q).elim
  · cases a <;> cases b <;> first | exact ⟨q.1, i _ q.2⟩ | exact q
theorem opx_ii0 {f : Value → Value → Sem Value} {g : Int → Int → Int} (h : OpR X f (rI0 fun i j => .int (g i j))) : OpX X G f (dII (fun _ _ => True) g) :=
  opx_ii fun pins s σ H x y v u Q I rx ry ⟨i, j, e1, e2, _, q⟩ => h pins s σ H x y v u Q I rx ry ⟨i, j, e1, e2, q⟩
theorem opx_sub : OpX X G (binaryOp .Sub) (dII (fun _ _ => True) fun i j => i - j) := opx_ii0 op_sub
theorem opx_mul : OpX X G (binaryOp .Mult) (dII CMulW fun i j => i * j) := opx_ii op_mulW
theorem opx_mod : OpX X G (binaryOp .Mod) (dII (fun _ j => 0 < j) fun i j => i % j) := opx_ii op_mod
theorem opx_div : OpX X G (binaryOp .FloorDiv) (dII CDivW fun i j => i / j) := opx_ii op_fdivW
theorem opx_pow : OpX X G (binaryOp .Pow) (dII CPowW fun i j => i ^ j.toNat) := opx_ii op_powW
/-- comparisons of ints, of texts -/
def dCmp (g : Int → Int → Bool) (t : List Nat → List Nat → Bool) : Op2
  | .int i, .int j, Q => Q (.bl (g i j))
  | .str x, .str y, Q => Q (.bl (t x.cps.toList y.cps.toList))
  | _, _, _ => False
theorem opx_cmp {f : Value → Value → Sem Value} {g : Int → Int → Bool} {tb : List Nat → List Nat → Bool} (h : OpR X f (rI0 fun i j => .bl (g i j))) (h2 : OpR X f (fun x y H Q => ∃ i j, x = .str i ∧ y = .str j ∧ Q (.bl (tb i.cps.toList j.cps.toList)) H)) : OpX X G f (dCmp g tb) := by
  refine ⟨fun pins s σ H x y v u Q I rx ry ⟨T, d1, d2, t, c1, c2, q⟩ => ?_, fun a b Q Q' i q => ?_⟩
  · cases d1 with
    | int i =>
      cases d2 with
      | int j =>
        cases c1
        cases c2
        exact h pins s σ H _ _ v u Q I rx ry ⟨i, j, rfl, rfl, q _ H (Ex.refl H) (.bl _)⟩
      | _ => exact (show False from q).elim
    | str i =>
      cases d2 with
      | str j =>
        cases c1
        cases c2
        exact h2 pins s σ H _ _ v u Q I rx ry ⟨i, j, rfl, rfl, q _ H (Ex.refl H) (.bl _)⟩
      | _ => exact (show False from q).elim
    | _ => exact (show False from q).elim
  · cases a <;> cases b <;> first | exact i _ q | exact q
theorem opx_lt : OpX X G (compareOp .Lt) (dCmp (fun i j => decide (i < j)) fun x y => decide (x < y)) := opx_cmp op_lt op_lt_str
theorem opx_le : OpX X G (compareOp .LtE) (dCmp (fun i j => decide (i ≤ j)) fun x y => !decide (y < x)) := opx_cmp op_le op_le_str
theorem opx_gt : OpX X G (compareOp .Gt) (dCmp (fun i j => decide (j < i)) fun x y => decide (y < x)) := opx_cmp op_gt op_gt_str
theorem opx_ge : OpX X G (compareOp .GtE) (dCmp (fun i j => decide (j ≤ i)) fun x y => !decide (x < y)) := opx_cmp op_ge op_ge_str
/-- == of any two values -/
def dEq (neg : Bool) : Op2 := fun a b Q => okPy a = true ∧ okPy b = true ∧ Q (.bl (if neg = true then !PyData.eqv a.py b.py else PyData.eqv a.py b.py))
theorem opx_eq (hu : X.A.units + 64 < cLine) (hK : X.K = G.K := by rfl) : OpX X G (compareOp .Eq) (dEq false) := by
  refine ⟨fun pins s σ H x y v u Q I rx ry ⟨T, d1, d2, t, c1, c2, q1, q2, q⟩ => ?_, fun a b Q Q' i q => ⟨q.1, q.2.1, i _ q.2.2⟩⟩
  exact op_eqD hu pins s σ H x y v u Q I rx ry ⟨_, _, hK ▸ dp_ok c1.fz q1, hK ▸ dp_ok c2.fz q2, q1, q2, q _ H (Ex.refl H) (.bl _)⟩
theorem opx_ne (hu : X.A.units + 64 < cLine) (hK : X.K = G.K := by rfl) : OpX X G (compareOp .NotEq) (dEq true) := by
  refine ⟨fun pins s σ H x y v u Q I rx ry ⟨T, d1, d2, t, c1, c2, q1, q2, q⟩ => ?_, fun a b Q Q' i q => ⟨q.1, q.2.1, i _ q.2.2⟩⟩
  exact op_neD hu pins s σ H x y v u Q I rx ry ⟨_, _, hK ▸ dp_ok c1.fz q1, hK ▸ dp_ok c2.fz q2, q1, q2, q _ H (Ex.refl H) (.bl _)⟩
/-- is None -/
def dIsN (neg : Bool) : Op2 := fun a b Q => b = .non ∧ Q (.bl (match a with | .non => !neg | _ => neg))
theorem fz_non {K : PySem.W.Frag} {T : Addr → Prop} {H : Hp} {v : V} {d : D} (h : Cz K T H v d) : decide (v = .non) = match d with | .non => true | _ => false := by
  cases d with
  | non => cases h; rfl
  | bl b => cases h; rfl
  | int b => cases h; rfl
  | str b => cases h; rfl
  | ty b => cases h <;> rfl
  | lst ds => obtain ⟨a, vs, rfl, _⟩ := h; rfl
  | dic ks ds => obtain ⟨a, vs, rfl, _⟩ := h; rfl
  | tup ds => cases h; rfl
theorem opx_isN : OpX X G (compareOp .Is) (dIsN false) := by
  refine ⟨fun pins s σ H x y v u Q I rx ry ⟨T, d1, d2, t, c1, c2, q1, q⟩ => ?_, fun a b Q Q' i q => ⟨q.1, i _ q.2⟩⟩
  subst q1
  cases c2
  refine op_isN pins s σ H _ _ v u Q I rx ry ⟨rfl, ?_⟩
  rw [fz_non c1]
  refine q _ H (Ex.refl H) ?_
  cases d1 <;> exact .bl _
theorem opx_notN : OpX X G (compareOp .IsNot) (dIsN true) := by
  refine ⟨fun pins s σ H x y v u Q I rx ry ⟨T, d1, d2, t, c1, c2, q1, q⟩ => ?_, fun a b Q Q' i q => ⟨q.1, i _ q.2⟩⟩
  subst q1
  cases c2
  refine op_notN pins s σ H _ _ v u Q I rx ry ⟨rfl, ?_⟩
  rw [fz_non c1]
  refine q _ H (Ex.refl H) ?_
  cases d1 <;> exact .bl _
/-- x in a list, a tuple, a text (one sign) -/
def dIn (neg : Bool) : Op2
  | a, .lst ds, Q => okPy a = true ∧ okPy (.lst ds) = true ∧ Q (.bl (if neg = true then !(D.pyL ds).any fun z => PyData.eqv z a.py else (D.pyL ds).any fun z => PyData.eqv z a.py))
  | a, .tup ds, Q => okPy a = true ∧ okPy (.tup ds) = true ∧ Q (.bl (if neg = true then !(D.pyL ds).any fun z => PyData.eqv z a.py else (D.pyL ds).any fun z => PyData.eqv z a.py))
  | .str x, .str z, Q => ∃ c, x = ⟨#[c]⟩ ∧ Q (.bl (if neg = true then !decide (c ∈ z.cps.toList) else decide (c ∈ z.cps.toList)))
  | _, _, _ => False
theorem dIn_mono (neg : Bool) : MonoO (dIn neg) := fun a b Q Q' i q => by
  cases b with
  | lst ds => exact ⟨q.1, q.2.1, i _ q.2.2⟩
  | tup ds => exact ⟨q.1, q.2.1, i _ q.2.2⟩
  | str z =>
    cases a with
    | str x => obtain ⟨c, e, q⟩ := q; exact ⟨c, e, i _ q⟩
    | _ => exact q
  | _ => cases a <;> exact q
theorem opx_in (hu : X.A.units + 65 < cLine) (hK : X.K = G.K := by rfl) : OpX X G (compareOp .In) (dIn false) := by
  refine ⟨fun pins s σ H x y v u Q I rx ry ⟨T, d1, d2, t, c1, c2, q⟩ => ?_, dIn_mono false⟩
  cases d2 with
  | lst ds =>
    obtain ⟨q1, q2, q⟩ := q
    exact op_inD hu pins s σ H x y v u Q I rx ry ⟨_, _, hK ▸ dp_ok c1.fz q1, (hK ▸ dp_ok c2.fz q2 : Dp X.K H y (D.lst ds).py), q1, q2, q _ H (Ex.refl H) (.bl _)⟩
  | tup ds =>
    obtain ⟨q1, q2, q⟩ := q
    exact op_inDT hu pins s σ H x y v u Q I rx ry ⟨_, _, hK ▸ dp_ok c1.fz q1, (hK ▸ dp_ok c2.fz q2 : Dp X.K H y (D.tup ds).py), q1, q2, q _ H (Ex.refl H) (.bl _)⟩
  | str z =>
    cases d1 with
    | str x1 =>
      obtain ⟨c, e, q⟩ := q
      subst e
      cases c1
      cases c2
      exact op_in_sign pins s σ H _ _ v u Q I rx ry ⟨c, z, rfl, rfl, q _ H (Ex.refl H) (.bl _)⟩
    | _ => exact (show False from q).elim
  | _ => cases d1 <;> exact (show False from q).elim
/-- x[i] -/
def dIx : Op2
  | .lst ds, .int i, Q => ∃ d, atI ds i = some d ∧ Q d
  | .tup ds, .int i, Q => ∃ d, atI ds i = some d ∧ Q d
  | .str z, .int i, Q => z.length ≤ sizeLine ∧ ∃ c, atI z.cps.toList i = some c ∧ Q (.str ⟨#[c]⟩)
  | _, _, _ => False
theorem FzL.atI {K : PySem.W.Frag} {H : Hp} {vs : List V} {ds : List D} {i : Int} {d : D} (h : FzL K H vs ds) (e : L2.atI ds i = some d) : ∃ v, L2.atI vs i = some v ∧ Fz K H v d := by
  unfold L2.atI at e ⊢
  rw [h.length]
  cases q : ixN ds.length i with
  | none => rw [q] at e; cases e
  | some j =>
    rw [q] at e
    have e : ds[j]? = some d := e
    have hj : j < vs.length := by rw [h.length]; exact (List.getElem?_eq_some_iff.mp e).1
    exact ⟨vs[j], List.getElem?_eq_getElem hj, h.get (List.getElem?_eq_getElem hj) e⟩
theorem ixx (hK : X.K = G.K := by rfl) : IxX X G dIx := by
  refine ⟨fun value slice pins s σ H x y v u Q I rx ry ⟨T, d1, d2, t, c1, c2, q⟩ hs => ?_, fun a b Q Q' i q => ?_⟩
  · cases d2 with
    | int i =>
      cases d1 with
      | lst ds =>
        obtain ⟨d, h1, q⟩ := q
        obtain ⟨a, vs, rfl, l, f⟩ := c1
        cases c2
        obtain ⟨w, e, fw⟩ := f.atI h1
        exact ix_list value slice pins s σ H _ _ v u Q I rx ry ⟨a, vs, i, w, rfl, rfl, by rw [hK]; exact l, e, q _ H (Ex.refl H) fw⟩ hs
      | tup ds =>
        obtain ⟨d, h1, q⟩ := q
        cases c1 with
        | tup l f =>
          cases c2
          obtain ⟨w, e, fw⟩ := f.atI h1
          exact ix_tup value slice pins s σ H _ _ v u Q I rx ry ⟨_, _, i, w, rfl, rfl, by rw [hK]; exact ex_t hid_ex l, e, q _ H (Ex.refl H) fw⟩ hs
      | str z =>
        obtain ⟨hz, c, h1, q⟩ := q
        cases c1
        cases c2
        exact ix_str value slice pins s σ H _ _ v u Q I rx ry ⟨z, i, c, rfl, rfl, hz, h1, q _ H (Ex.refl H) (.str _)⟩ hs
      | _ => exact (show False from q).elim
    | _ => cases d1 <;> exact (show False from q).elim
  · cases b with
    | int k =>
      cases a with
      | lst ds => obtain ⟨d, h, q⟩ := q; exact ⟨d, h, i _ q⟩
      | tup ds => obtain ⟨d, h, q⟩ := q; exact ⟨d, h, i _ q⟩
      | str z => obtain ⟨h, c, h2, q⟩ := q; exact ⟨h, c, h2, i _ q⟩
      | _ => exact q
    | _ => cases a <;> exact q
end
end Fx

namespace Fx
open PySem PySem.Spec PyProof.Rows L2 Evl Lk

/-! ### calls of built-ins -/
inductive CzL (K : PySem.W.Frag) (T : Addr → Prop) (H : Hp) : List V → List D → Prop
  | nil : CzL K T H [] []
  | cons {v : V} {vs : List V} {d : D} {ds : List D} : Cz K T H v d → CzL K T H vs ds → CzL K T H (v :: vs) (d :: ds)
abbrev OpC := List D → (D → Prop) → Prop
def MonoC (o : OpC) : Prop := ∀ a (Q Q' : D → Prop), (∀ d, Q d → Q' d) → o a Q → o a Q'
def rC (G : Gx) (o : OpC) : List V → Hp → VK → Prop := fun xs H Q => ∃ T ds, Trk T H ∧ CzL G.K T H xs ds ∧ o ds fun d => ∀ v H', Ex H H' → Fz G.K (hid T H') v d → Q v H'
structure CaX (X : Cx) (G : Gx) (f : Value) (o : OpC) : Prop where
  ok : CallR X f (rC G o)
  mono : MonoC o
def cdL : List Sl → Option (List D)
  | [] => some []
  | s :: ss => match s.cd, cdL ss with
    | some d, some ds => some (d :: ds)
    | _, _ => none
def wCB (o : OpC) (wa : WA) : WE := fun env Q => wa env fun ags e => ∃ ss ds, resA ags e = some ss ∧ cdL ss = some ds ∧ o ds fun d => Q (.f d) e
section
variable {X : Cx} {G : Gx} {e : Expr} {es : List Expr} {wa : WA} {w w1 w2 : WE}
theorem args_cz {σ : L2.St} {T0 T : Addr → Prop} {H0 H : Hp} {env0 env : Env} {F0 F : Nat → List Addr} {vs : List V} {Fa : Nat → List Addr} {ags : List Ag} {ss : List Sl} {ds : List D} (r : RE G T H σ env F) (z : ArgR G σ T0 H0 env0 F0 T H env F ags vs Fa) (h : resA ags env = some ss) (hd : cdL ss = some ds) : CzL G.K T H vs ds := by
  obtain ⟨hl, g⟩ := resA_get h
  have key : ∀ (ss : List Sl) (vs : List V) (ds : List D), vs.length = ss.length → (∀ (j : Nat) (s : Sl), ss[j]? = some s → ∃ v fr, vs[j]? = some v ∧ SlR G T H s v fr) → cdL ss = some ds → CzL G.K T H vs ds := by
    intro ss
    induction ss with
    | nil =>
      intro vs ds hl _ h
      cases h
      cases vs with
      | nil => exact .nil
      | cons _ _ => cases hl
    | cons s ss ih =>
      intro vs ds hl hv h
      cases vs with
      | nil => cases hl
      | cons v vs =>
        unfold cdL at h
        cases e1 : s.cd with
        | none => rw [e1] at h; cases h
        | some d =>
          cases e2 : cdL ss with
          | none => rw [e1, e2] at h; cases h
          | some ds' =>
            rw [e1, e2] at h
            cases h
            obtain ⟨v', fr, h1, h2⟩ := hv 0 s rfl
            cases h1
            refine .cons (h2.cz e1) (ih vs ds' (by simpa using hl) (fun j s hj => ?_) e2)
            obtain ⟨v', fr, h1, h2⟩ := hv (j + 1) s (by simpa using hj)
            exact ⟨v', fr, by simpa using h1, h2⟩
  refine key ss vs ds (by rw [z.len, hl]) (fun j s hj => ?_) hd
  rcases g j s hj with ⟨ha, _⟩ | ⟨i, o, ha, rfl, he⟩ | ⟨i, t, ha, he, _, ht⟩
  · obtain ⟨v, h1, h2, _⟩ := z.val j s ha
    exact ⟨v, _, h1, h2⟩
  · obtain ⟨v, h1, h2⟩ := z.slt j i true ha
    obtain ⟨v', h3, h4⟩ := r.slot i _ he
    rw [h1] at h3
    cases h3
    exact ⟨v, _, h2, h4⟩
  · obtain ⟨v, h1, h2⟩ := z.slt j i false ha
    obtain ⟨v', h3, h4⟩ := r.slot i _ he
    rw [h1] at h3
    cases h3
    rcases ht with ⟨o, rfl, rfl⟩ | rfl
    · exact ⟨v, _, h2, h4⟩
    · exact ⟨v, _, h2, h4⟩
theorem mono_cb {o : OpC} (ma : MonoA wa) (mo : MonoC o) : MonoE (wCB o wa) := fun env Q Q' i q => ma _ _ _ (fun ags e ⟨ss, ds, h1, h2, q⟩ => ⟨ss, ds, h1, h2, mo _ _ _ (fun d q => i _ _ q) q⟩) q
theorem ge_cb {o : OpC} (h : PE X e (tCB (rC G o) (tWA G wa))) (ma : MonoA wa) (mo : MonoC o) : GE X G e (wCB o wa) := by
  refine ⟨pe_imp h fun σ H Q ⟨T, env, F, r, q⟩ => ⟨T, env, F, r, ma _ _ _ (fun ags e ⟨ss, ds, h1, h2, q⟩ vs T1 H1 F1 Fa a z => ?_) q⟩, mono_cb ma mo⟩
  refine ⟨T1, ds, a.re.trk, args_cz a.re z h1 h2, mo _ _ _ (fun d q v H2 e2 f2 => ?_) q⟩
  exact q v T1 H2 F1 [] (a.trans r.trk (Att.ex a.re e2)) (res_f f2)
theorem cz1 {K : PySem.W.Frag} {T : Addr → Prop} {H : Hp} {vs : List V} {d : D} (h : CzL K T H vs [d]) : ∃ v, vs = [v] ∧ Cz K T H v d := by
  cases h with
  | cons a b => cases b; exact ⟨_, rfl, a⟩
theorem cz2 {K : PySem.W.Frag} {T : Addr → Prop} {H : Hp} {vs : List V} {d d2 : D} (h : CzL K T H vs [d, d2]) : ∃ v v2, vs = [v, v2] ∧ Cz K T H v d ∧ Cz K T H v2 d2 := by
  cases h with
  | cons a b => cases b with
    | cons b c => cases c; exact ⟨_, _, rfl, a, b⟩
def cLen : OpC
  | [.lst ds], Q => Q (.int ds.length)
  | [.tup ds], Q => Q (.int ds.length)
  | [.str x], Q => x.length ≤ sizeLine ∧ Q (.int x.length)
  | [.dic ks ds], Q => Q (.int ds.length)
  | _, _ => False
theorem rd_hid {T : Addr → Prop} {H : Hp} {a : Addr} {o : HO} (l : Rd (hid T H) a o) : Rd H a o := ex_rd hid_ex l
theorem cax_len (hK : X.K = G.K := by rfl) : CaX X G (.builtin "len") cLen := by
  refine ⟨fun pins s σ H xs us Q I rv ⟨T, ds, t, c, q⟩ => ?_, fun a Q Q' i q => ?_⟩
  · unfold cLen at q
    split at q
    · obtain ⟨v, rfl, cv⟩ := cz1 c
      obtain ⟨a, vs, rfl, l, f⟩ := cv
      exact call_len_seq pins s σ H _ us Q I rv ⟨a, vs, rfl, .inl (by rw [hK]; exact l), by rw [f.length]; exact q _ H (Ex.refl H) (.int _)⟩
    · obtain ⟨v, rfl, cv⟩ := cz1 c
      cases cv with
      | tup l f => exact call_len_seq pins s σ H _ us Q I rv ⟨_, _, rfl, .inr (by rw [hK]; exact ex_t hid_ex l), by rw [f.length]; exact q _ H (Ex.refl H) (.int _)⟩
    · obtain ⟨v, rfl, cv⟩ := cz1 c
      cases cv
      exact call_len_str pins s σ H _ us Q I rv ⟨_, rfl, q.1, q.2 _ H (Ex.refl H) (.int _)⟩
    · obtain ⟨v, rfl, cv⟩ := cz1 c
      obtain ⟨a, vs, rfl, l, hl, f⟩ := cv
      obtain ⟨u, rfl, ru⟩ := vals1 rv
      cases ru
      refine d_len I l fun t s' I' => ⟨.int _, H, I', ⟨t, by rw [List.length_zip, hl, Nat.min_self, f.length]⟩, q _ H (Ex.refl H) (.int _)⟩
    · exact q.elim
  · unfold cLen at q ⊢
    split at q <;> simp_all
def cMax2 : OpC
  | [.int i, .int j], Q => Q (.int (if j > i then j else i))
  | _, _ => False
def cMin2 : OpC
  | [.int i, .int j], Q => Q (.int (if j < i then j else i))
  | _, _ => False
theorem cax_max2 (hc : X.calm = true) : CaX X G (.builtin "max") cMax2 := by
  refine ⟨fun pins s σ H xs us Q I rv ⟨T, ds, t, c, q⟩ => ?_, fun a Q Q' i q => ?_⟩
  · unfold cMax2 at q
    split at q
    · obtain ⟨v, v2, rfl, c1, c2⟩ := cz2 c
      cases c1
      cases c2
      exact call_max2 hc pins s σ H _ us Q I rv ⟨_, _, rfl, q _ H (Ex.refl H) (.int _)⟩
    · exact q.elim
  · unfold cMax2 at q ⊢
    split at q <;> simp_all
theorem cax_min2 (hc : X.calm = true) : CaX X G (.builtin "min") cMin2 := by
  refine ⟨fun pins s σ H xs us Q I rv ⟨T, ds, t, c, q⟩ => ?_, fun a Q Q' i q => ?_⟩
  · unfold cMin2 at q
    split at q
    · obtain ⟨v, v2, rfl, c1, c2⟩ := cz2 c
      cases c1
      cases c2
      exact call_min2 hc pins s σ H _ us Q I rv ⟨_, _, rfl, q _ H (Ex.refl H) (.int _)⟩
    · exact q.elim
  · unfold cMin2 at q ⊢
    split at q <;> simp_all
def cList : OpC
  | [.lst ds], Q => Q (.lst ds)
  | [.tup ds], Q => Q (.lst ds)
  | _, _ => False
def cTuple : OpC
  | [.lst ds], Q => Q (.tup ds)
  | [.tup ds], Q => Q (.tup ds)
  | _, _ => False
theorem cax_tuple (hK : X.K = G.K := by rfl) : CaX X G (.type "tuple") cTuple := by
  refine ⟨fun pins s σ H xs us Q I rv ⟨T, ds, t, c, q⟩ => ?_, fun a Q Q' i q => ?_⟩
  · unfold cTuple at q
    split at q
    · obtain ⟨v, rfl, cv⟩ := cz1 c
      obtain ⟨a, vs, rfl, l, f⟩ := cv
      exact call_tuple_of pins s σ H _ us Q I rv ⟨a, vs, rfl, .inl ⟨by rw [hK]; exact l, fun p np => q _ _ (Ex.new np) (fz_new_t t np f)⟩⟩
    · obtain ⟨v, rfl, cv⟩ := cz1 c
      cases cv with
      | tup l f => exact call_tuple_of pins s σ H _ us Q I rv ⟨_, _, rfl, .inr ⟨by rw [hK]; exact ex_t hid_ex l, q _ H (Ex.refl H) (.tup l f)⟩⟩
    · exact q.elim
  · unfold cTuple at q ⊢
    split at q <;> simp_all
/-! isinstance -/
def tyN : D → String
  | .non => "NoneType"
  | .bl _ => "bool"
  | .int _ => "int"
  | .str _ => "str"
  | .lst _ => "list"
  | .tup _ => "tuple"
  | .dic _ _ => "dict"
  | .ty _ => ""
theorem kitD {pins : List (Addr × Obj)} {σ : L2.St} {H : Hp} {s : Shared} {x : V} {u : Value} {d : D} (I : Inv X pins σ H s) (h : Fz X.K H x d) (r : RelV x u) (n : ∀ m, d ≠ .ty m) :
    ∃ P : Heap → Prop, PySem.W.KitX X.K u (.type (tyN d)) P ∧ P s.heap ∧ (∀ (Pt : Addr) (h2 : Heap), (∃ ob, s.heap.get? Pt = some ob ∧ ob.cls = .none) → (∀ b o, b ≠ Pt → s.heap.get? b = some o → h2.get? b = some o) → P h2) ∧ u ≠ .builtin "__main__.__loader__#opaque" := by
  have at_ : ∀ (a : Addr) (T : String), PySem.W.KitAt a T s.heap → ∀ (Pt : Addr) (h2 : Heap), (∃ ob, s.heap.get? Pt = some ob ∧ ob.cls = .none) → (∀ b o, b ≠ Pt → s.heap.get? b = some o → h2.get? b = some o) → PySem.W.KitAt a T h2 := fun a T ⟨o, h1, h2⟩ Pt hp ⟨ob, g1, g2⟩ k => by
    refine ⟨o, k a o (fun e => ?_) h1, h2⟩
    rw [e, g1] at h1
    cases h1
    rw [g2] at h2
    cases h2
  cases h with
  | non => cases r; exact ⟨_, PySem.W.kitx_none, True.intro, fun _ _ _ _ => True.intro, fun z => nomatch z⟩
  | bl b => cases r; exact ⟨_, PySem.W.kitx_bool, True.intro, fun _ _ _ _ => True.intro, fun z => nomatch z⟩
  | int i => obtain ⟨t, rfl⟩ := _root_.id r; exact ⟨_, PySem.W.kitx_int, True.intro, fun _ _ _ _ => True.intro, fun z => nomatch z⟩
  | str y => obtain ⟨t, rfl⟩ := _root_.id r; exact ⟨_, PySem.W.kitx_str, True.intro, fun _ _ _ _ => True.intro, fun z => nomatch z⟩
  | ty m => exact absurd rfl (n m)
  | cls C => exact absurd rfl (n (.cls C))
  | exc a b => exact absurd rfl (n (.exc _ _))
  | lst l f =>
    cases r
    obtain ⟨its, rv, ⟨o, k, h1, h2, _⟩, _⟩ := I.list l
    exact ⟨_, PySem.W.kitx_list, ⟨o, h1, h2⟩, at_ _ _ ⟨o, h1, h2⟩, fun z => nomatch z⟩
  | tup l f =>
    cases r
    obtain ⟨its, rv, ⟨o, h1, h2, _⟩, _⟩ := I.tuple l
    exact ⟨_, PySem.W.kitx_tuple, ⟨o, h1, h2⟩, at_ _ _ ⟨o, h1, h2⟩, fun z => nomatch z⟩
  | dic l e f =>
    cases r
    obtain ⟨_, _, vs, _, o, es, ep, h1, h2, _⟩ := l.ok I.hok
    exact ⟨_, PySem.W.kitx_dict, ⟨o, h1, h2.1⟩, at_ _ _ ⟨o, h1, h2.1⟩, fun z => nomatch z⟩
def isiB (d : D) (n : String) : Option Bool := match d with
  | .ty _ => none
  | d => kitB (tyN d) n
def cIsi : OpC
  | [d, .ty (.bt n)], Q => ∃ b, isiB d n = some b ∧ Q (.bl b)
  | _, _ => False
theorem isiB_ty {d : D} {n : String} {b : Bool} (h : isiB d n = some b) : (∀ m, d ≠ .ty m) ∧ kitB (tyN d) n = some b := by
  cases d <;> first | exact ⟨nofun, h⟩ | cases h
theorem cax_isi (hK : X.K = G.K := by rfl) : CaX X G (.builtin "isinstance") cIsi := by
  refine ⟨fun pins s σ H xs us Q I rv ⟨T, ds, t, c, q⟩ => ?_, fun a Q Q' i q => ?_⟩
  · unfold cIsi at q
    split at q
    · obtain ⟨v, v2, rfl, c1, c2⟩ := cz2 c
      obtain ⟨b, hb, q⟩ := q
      obtain ⟨n, hk⟩ := isiB_ty hb
      cases c2
      obtain ⟨u1, u2, rfl, r1, r2⟩ := vals2 rv
      cases (show u2 = Value.type _ from r2)
      obtain ⟨P, Z, p, _, hx⟩ := kitD I (by rw [hK]; exact c1.fz) r1 n
      exact PySem.W.kia_one Z I.kIn p (kit_ty hk) hx fun tk => ⟨.bl b, H, I.tok tk, rfl, q _ H (Ex.refl H) (.bl b)⟩
    · exact q.elim
  · unfold cIsi at q ⊢
    split at q
    · obtain ⟨b, hb, q⟩ := q
      exact ⟨b, hb, i _ q⟩
    · exact q.elim
/-! ### methods of texts -/
def wJoin (w1 w2 : WE) : WE := fun env Q => w1 env fun r1 e1 => ∃ a, r1 = .f (.str a) ∧ w2 e1 fun r2 e2 => ∃ ds ys, (r2.cd = some (.lst ds) ∨ r2.cd = some (.tup ds)) ∧ ds = ys.map D.str ∧ (ys.map (·.length)).sum + ys.length * a.length ≤ 16777216 ∧ Q (.f (.str (Txt.join a ys))) e2
theorem fz_strs {K : PySem.W.Frag} {H : Hp} : ∀ {ys : List Str} {vs : List V}, FzL K H vs (ys.map D.str) → vs = ys.map V.str
  | [], _, h => by cases h; rfl
  | y :: ys, _, h => by
    cases h with
    | cons a b =>
      cases a
      rw [fz_strs b] <;> rfl
theorem ge_join {o : Expr} {apos pos : Pos} (ho : GE X G o w1) (he : GE X G e w2) (hK : X.K = G.K := by rfl) (hs : starEach [e] X.env = [(false, eval e X.env)] := by rfl) (hbase : attributeBase o "join" X.env (eval o X.env) = eval o X.env := by rfl) (hline : (apos.endLine == pos.line) = true := by rfl) :
    GE X G (.Call (.Attribute o "join" apos) [e] [] pos) (wJoin w1 w2) := by
  refine ⟨pe_imp (pe_join ho.pe he.pe hs hbase hline) fun σ H Q ⟨T, env, F, r, q⟩ => ⟨T, env, F, r, ho.mono _ _ _ (fun s e ⟨a, hs, q⟩ x T1 H1 F1 f1 a1 z1 => ?_) q⟩, fun env Q Q' i q => ho.mono _ _ _ (fun s e ⟨a, hs, q⟩ => ⟨a, hs, he.mono _ _ _ (fun s2 e2 ⟨ds, ys, h1, h2, h3, q⟩ => ⟨ds, ys, h1, h2, h3, i _ _ q⟩) q⟩) q⟩
  subst hs
  have zr := z1.rel.1
  cases zr
  refine ⟨⟨a, rfl⟩, T1, e, F1, a1.re, he.mono _ _ _ (fun s2 e2 ⟨ds, ys, h1, h2, h3, q⟩ y T2 H2 F2 f2 a2 z2 => ?_) q⟩
  subst h2
  have fin := q (.str (Txt.join a ys)) T2 H2 F2 [] (a1.trans r.trk a2) (res_f (.str _))
  rcases h1 with h1 | h1
  · obtain ⟨p, vs, rfl, l, f⟩ := z2.rel.cz h1
    rw [fz_strs f] at l
    exact ⟨a, p, ys, rfl, rfl, .inl (by rw [hK]; exact l), h3, fin⟩
  · have c := z2.rel.cz h1
    have c : Fz G.K (hid T2 H2) y (.tup _) := c
    cases c with
    | tup l f =>
      rw [fz_strs f] at l
      exact ⟨a, _, ys, rfl, rfl, .inr (by rw [hK]; exact ex_t hid_ex l), h3, fin⟩
/-! ### slices -/
abbrev WO := Env → (Option Int → Env → Prop) → Prop
def MonoOp (w : WO) : Prop := ∀ env (Q Q' : Option Int → Env → Prop), (∀ r e, Q r e → Q' r e) → w env Q → w env Q'
def tWO (G : Gx) (w : WO) : TO := fun σ H Q => ∃ T env F, RE G T H σ env F ∧ w env fun i env' => ∀ T' H' F', Att G σ T H env F T' H' env' F' → Q i H'
structure GO (X : Cx) (G : Gx) (e : Option Expr) (w : WO) : Prop where
  po : PO X e (tWO G w)
  mono : MonoOp w
theorem po_imp {e : Option Expr} {t t' : TO} (h : PO X e t) (i : ∀ σ H Q, t' σ H Q → t σ H Q) : PO X e t' := ⟨fun pins s σ H Q I q => h.run pins s σ H Q I (i σ H Q q)⟩
def woN : WO := fun env Q => Q none env
def woS (w : WE) : WO := fun env Q => w env fun r e => ∃ i, r = .f (.int i) ∧ Q (some i) e
theorem go_none : GO X G none woN := ⟨po_imp po_none fun σ H Q ⟨T, env, F, r, q⟩ => q T H F (.refl r), fun env Q Q' i q => i _ _ q⟩
theorem go_some (h : GE X G e w) : GO X G (some e) (woS w) := by
  refine ⟨po_imp (po_some h.pe) fun σ H Q ⟨T, env, F, r, q⟩ => ⟨T, env, F, r, h.mono _ _ _ (fun s e ⟨i, hs, q⟩ x T1 H1 F1 f1 a1 z1 => ?_) q⟩, fun env Q Q' ii q => h.mono _ _ _ (fun s e ⟨i, hs, q⟩ => ⟨i, hs, ii _ _ q⟩) q⟩
  subst hs
  have zr := z1.rel.1
  cases zr
  exact ⟨i, rfl, q T1 H1 F1 a1⟩
def cutD (xs : List D) (lo hi : Option Int) : List D := (xs.drop (HT.sIx xs.length 0 lo)).take (HT.sIx xs.length xs.length hi - HT.sIx xs.length 0 lo)
def dSl : D → Option Int → Option Int → (D → Prop) → Prop
  | .lst ds, lo, hi, Q => Q (.lst (cutD ds lo hi))
  | .tup ds, lo, hi, Q => Q (.tup (cutD ds lo hi))
  | .str z, lo, hi, Q => z.length ≤ sizeLine ∧ Q (.str (cutS z lo hi))
  | _, _, _, _ => False
def rSl (G : Gx) : V → Option Int → Option Int → Hp → VK → Prop := fun x lo hi H Q => ∃ T d, Trk T H ∧ Cz G.K T H x d ∧ dSl d lo hi fun d => ∀ v H', Ex H H' → Fz G.K (hid T H') v d → Q v H'
theorem FzL.cut {K : PySem.W.Frag} {H : Hp} {vs : List V} {ds : List D} (h : FzL K H vs ds) (lo hi : Option Int) : FzL K H (cutV vs lo hi) (cutD ds lo hi) := by
  unfold cutV cutD
  rw [h.length]
  exact (h.drop _).take _
theorem cutD_whole {ds : List D} {lo hi : Option Int} (h : HT.sIx ds.length 0 lo = 0 ∧ HT.sIx ds.length ds.length hi = ds.length) : cutD ds lo hi = ds := by
  unfold cutD
  rw [h.1, h.2]
  simp
theorem slx (hK : X.K = G.K := by rfl) : L2.SlR X (rSl G) := by
  intro pins s σ H x v vl vu lo hi sl Q I rx hs pl pu ⟨T, d, t, c, q⟩
  cases d with
  | lst ds =>
    obtain ⟨a, vs, rfl, l, f⟩ := c
    exact sl_list pins s σ H _ v vl vu lo hi sl Q I rx hs pl pu ⟨a, vs, rfl, by rw [hK]; exact l, fun p np => q _ _ (Ex.new np) (fz_new_l t np (f.cut lo hi))⟩
  | tup ds =>
    cases c with
    | tup l f =>
      have k := ex_t (K := G.K) hid_ex l
      refine sl_tupA pins s σ H _ v vl vu lo hi sl Q I rx hs pl pu ⟨_, _, rfl, by rw [hK]; exact k, fun h => ?_, fun _ p np => q _ _ (Ex.new np) (fz_new_t t np (f.cut lo hi))⟩
      rw [f.length] at h
      refine q _ H (Ex.refl H) ?_
      rw [cutD_whole h]
      exact .tup l f
  | str z =>
    cases c
    exact sl_str pins s σ H _ v vl vu lo hi sl Q I rx hs pl pu ⟨z, rfl, q.1, q.2 _ H (Ex.refl H) (.str _)⟩
  | _ => exact (show False from q).elim
theorem dSl_mono {d : D} {lo hi : Option Int} {Q Q' : D → Prop} (i : ∀ d, Q d → Q' d) (q : dSl d lo hi Q) : dSl d lo hi Q' := by
  cases d <;> first | exact i _ q | exact ⟨q.1, i _ q.2⟩ | exact q
/-- x[lo:hi]: a value; or the thing at a slot -/
def wSl (w : WE) (lo hi : WO) : WE := fun env Q => w env fun r e => ∃ d, r = .f d ∧ lo e fun l e2 => hi e2 fun u e3 => dSl d l u fun d => Q (.f d) e3
theorem ge_sl {lo hi : Option Expr} {wl wh : WO} {pos p2 : Pos} (he : GE X G e w) (hl : GO X G lo wl) (hu : GO X G hi wh) (hK : X.K = G.K := by rfl) : GE X G (.Subscript e (.Slice lo hi none p2) pos) (wSl w wl wh) := by
  refine ⟨pe_imp (pe_slice (slx hK) he.pe hl.po hu.po) fun σ H Q ⟨T, env, F, r, q⟩ => ⟨T, env, F, r, he.mono _ _ _ (fun s e ⟨d, hs, q⟩ x T1 H1 F1 f1 a1 z1 => ?_) q⟩, fun env Q Q' i q => he.mono _ _ _ (fun s e ⟨d, hs, q⟩ => ⟨d, hs, hl.mono _ _ _ (fun l e2 q => hu.mono _ _ _ (fun u e3 q => dSl_mono (fun d q => i _ _ q) q) q) q⟩) q⟩
  subst hs
  refine ⟨T1, e, F1, a1.re, hl.mono _ _ _ (fun l e2 q T2 H2 F2 a2 => ⟨T2, e2, F2, a2.re, hu.mono _ _ _ (fun u e3 q T3 H3 F3 a3 => ?_) q⟩) q⟩
  refine ⟨T3, d, a3.re.trk, Cz.of (Fz.att a2.re a3 (Fz.att a1.re a2 z1.rel.1)), dSl_mono (fun d q v H4 e4 f4 => ?_) q⟩
  exact q v T3 H4 F3 [] (((a1.trans r.trk a2).trans r.trk a3).trans r.trk (Att.ex a3.re e4)) (res_f f4)
/-! ### all(..) over the signs of a text, over the items of a tuple -/
def nmB (lo hi : Str) (a : Str) : Bool := (List.range a.cps.size).all (GxR.trF (btw lo hi) a.cps.toList)
def wAllSg (lo hi : Str) (w : WE) : WE := fun env Q => w env fun r e => ∃ a, r = .f (.str a) ∧ Q (.f (.bl (nmB lo hi a))) e
theorem ge_allSg {P : Addr} {scope : Scope} {x : Str} {lo hi : Str} {j1 j2 : Nat} {p1 p2 p3 p4 : Pos} (h : PE X e (tAllG X P scope x (.Compare (.Constant (.str lo) j1 p1) [.LtE, .LtE] [.Name x p2, .Constant (.str hi) j2 p3] p4) (tW G w))) (hm : MonoE w) (hP : P ∈ G.tabs)
    (hk : scope.kind = .function) (hl : scope.names.lookup x = some .local) (hd : (x == ("__debug__" : Str)) = false := by decide) : GE X G e (wAllSg lo hi w) := by
  refine ⟨pe_imp h fun σ H Q ⟨T, env, F, r, q⟩ => ⟨T, env, F, r, hm _ _ _ (fun s e ⟨a, hs, q⟩ v T1 H1 F1 f1 a1 z1 => ?_) q⟩, fun env Q Q' i q => hm _ _ _ (fun s e ⟨a, hs, q⟩ => ⟨a, hs, i _ _ q⟩) q⟩
  subst hs
  have zr := z1.rel.1
  cases zr
  have hT := (a1.re.tab P hP).1
  exact ⟨hT, _, _, ok_signs hk hl hT hd, q _ T1 H1 F1 [] a1 (res_f (.bl _))⟩
def isStr : D → Bool
  | .str _ => true
  | _ => false
def wAllStr (w : WE) : WE := fun env Q => w env fun r e => ∃ ds, r = .f (.tup ds) ∧ (∀ d ∈ ds, ∀ m, d ≠ .ty m) ∧ Q (.f (.bl (ds.all isStr))) e
theorem isi_str {d : D} (n : ∀ m, d ≠ .ty m) : kitB (tyN d) "str" = some (isStr d) := by
  cases d with
  | ty m => exact absurd rfl (n m)
  | _ => first | rfl | (show kitB _ _ = some _; simp only [tyN, isStr]; decide +kernel)
theorem elt_isiD {scope : Scope} {x : Str} {P : Addr} {pins : List (Addr × Obj)} {σ : L2.St} {H : Hp} {s1 : Shared} {vs : List V} {ds : List D} {its : List Value} {p1 p2 p3 p4 : Pos} (I : Inv X pins σ H s1) (hP : H P = some (TabO P)) (hk : scope.kind = .function) (hl : scope.names.lookup x = some .local) (hd : (x == ("__debug__" : Str)) = false)
    (g1 : scope.names.lookup ("isinstance" : Str) = some .globalImplicit) (m1 : X.mg "isinstance" = none) (g2 : scope.names.lookup ("str" : Str) = some .globalImplicit) (m2 : X.mg "str" = none) (fz : FzL X.K H vs ds) (nt : ∀ d ∈ ds, ∀ m, d ≠ .ty m) (rv : Vals vs its) :
    EltOk X scope x (.Call (.Name "isinstance" p1) [.Name x p2, .Name "str" p3] [] p4) P s1 (fun i v => its.toArray[i]? = some v) (fun i => (ds[i]?.map isStr).getD false) := by
  intro cenv A' E' i v s₂ m₂ GE hA hD hU hv hn hm kp
  have kb := ge_kb I hP kp
  have hv2 : its[i]? = some v := by simpa using hv
  have hi : i < its.length := (List.getElem?_eq_some_iff.mp hv2).1
  have hl1 := rv.length
  have hl2 := fz.length
  have hvi : i < vs.length := by omega
  have hdi : i < ds.length := by omega
  obtain ⟨u, hu, ru⟩ := rv.get (List.getElem?_eq_getElem hvi)
  rw [hv2] at hu
  cases hu
  have fd := fz.get (List.getElem?_eq_getElem hvi) (List.getElem?_eq_getElem hdi)
  have n := nt _ (List.getElem_mem hdi)
  obtain ⟨K1, Z, p, pk, hx⟩ := kitD I fd ru n
  obtain ⟨ps, hps⟩ := tab_at I hP
  have p' := pk P s₂.heap ⟨_, hps, rfl⟩ kp
  refine wpAny_Call_Name_kw (ge_blt I kb GE hk g1 m1 (u := .builtin "isinstance") (by first | decide +kernel | kernel_rfl) (by decide) (by decide) ?_)
  refine PyProof.Rows.callWith_builtin1 ?_ (by rfl) (by rfl)
  show wpAny _ _ (spliced [(false, eval (.Name x p2) cenv), (false, eval (.Name "str" p3) cenv)]) _ _ s₂
  refine Calls.spliced_cons (ge_own GE hk hl hn hm hd (Calls.spliced_cons (ge_blt I kb GE hk g2 m2 (u := .type "str") (by first | decide +kernel | kernel_rfl) (by decide) (by decide) (Calls.spliced_nil ?_))))
  refine PySem.W.kia_one Z (I.ok.mod.kin.keeps kb) p' (kit_ty (isi_str n)) hx fun tk => ⟨?_, GxR.keeps_tok _ _⟩
  simp only [List.getElem?_eq_getElem hdi]
  rfl
theorem ge_allStr {P : Addr} {scope : Scope} {x : Str} {p1 p2 p3 p4 : Pos} (h : PE X e (tAllG X P scope x (.Call (.Name "isinstance" p1) [.Name x p2, .Name "str" p3] [] p4) (tW G w))) (hm : MonoE w) (hP : P ∈ G.tabs)
    (hk : scope.kind = .function) (hl : scope.names.lookup x = some .local) (g1 : scope.names.lookup ("isinstance" : Str) = some .globalImplicit) (m1 : X.mg "isinstance" = none) (g2 : scope.names.lookup ("str" : Str) = some .globalImplicit) (m2 : X.mg "str" = none) (hK : X.K = G.K := by rfl)
    (hd : (x == ("__debug__" : Str)) = false := by decide) : GE X G e (wAllStr w) := by
  refine ⟨pe_imp h fun σ H Q ⟨T, env, F, r, q⟩ => ⟨T, env, F, r, hm _ _ _ (fun s e ⟨ds, hs, nt, q⟩ v T1 H1 F1 f1 a1 z1 => ?_) q⟩, fun env Q Q' i q => hm _ _ _ (fun s e ⟨ds, hs, nt, q⟩ => ⟨ds, hs, nt, i _ _ q⟩) q⟩
  subst hs
  have hT := (a1.re.tab P hP).1
  have fz := z1.rel.1
  cases fz with
  | tup l f =>
    have k := ex_t (K := G.K) hid_ex l
    refine ⟨hT, ds.length, _, fun pins s u I ru => ?_, (by rw [all_ix]; exact q _ T1 H1 F1 [] a1 (res_f (.bl _)))⟩
    obtain rfl : u = Value.ref _ := ru
    rw [← hK] at k
    obtain ⟨its, rv, ⟨o, h1, h2, n, h3⟩, _⟩ := I.tuple k
    refine ⟨fun i v => its.toArray[i]? = some v, ?_, elt_isiD I hT hk hl hd g1 m1 g2 m2 (by rw [hK]; exact f.ex hid_ex) nt rv⟩
    have hlen : its.toArray.size = ds.length := by rw [List.size_toArray, ← rv.length, f.length]
    rw [← hlen]
    exact it_tup (tab_lt I hT) ⟨o, h1, h2, n, h3⟩ (tup_ne I hT k)
end
end Fx

namespace Fx
open PySem PySem.Spec PyProof.Rows L2 Evl Lk

/-! ### not in -/
theorem op_ninT {X : Cx} (hu : X.A.units + 65 < cLine) : OpR X (compareOp .NotIn) (fun x y H Q => ∃ d ds, Dp X.K H x d ∧ Dp X.K H y (.tuple ds) ∧ SeqAt.shaped d = true ∧ SeqAt.shaped (.tuple ds) = true ∧ Q (.bl (!ds.any fun z => PyData.eqv z d)) H) := by
  intro pins s σ H x y v u Q I rx ry h
  obtain ⟨d, ds, hd, he, sd, se, q⟩ := h
  obtain ⟨as, r1⟩ := Dp.reads I d x v hd rx
  obtain ⟨bs, r2⟩ := Dp.reads I (.tuple ds) y u he ry
  exact SeqAt.notIn_tuple_reads r2 r1 (SeqAt.canLay_of_shaped se) (SeqAt.canLay_of_shaped sd) (room_in_shaped sd hu) ⟨.bl _, H, I, rfl, q⟩
section
variable {X : Cx} {G : Gx}
theorem opx_nin (hu : X.A.units + 65 < cLine) (hK : X.K = G.K := by rfl) : OpX X G (compareOp .NotIn) (dIn true) := by
  refine ⟨fun pins s σ H x y v u Q I rx ry ⟨T, d1, d2, t, c1, c2, q⟩ => ?_, dIn_mono true⟩
  cases d2 with
  | lst ds =>
    obtain ⟨q1, q2, q⟩ := q
    exact op_notInD hu pins s σ H x y v u Q I rx ry ⟨_, _, hK ▸ dp_ok c1.fz q1, (hK ▸ dp_ok c2.fz q2 : Dp X.K H y (D.lst ds).py), q1, q2, q _ H (Ex.refl H) (.bl _)⟩
  | tup ds =>
    obtain ⟨q1, q2, q⟩ := q
    exact op_ninT hu pins s σ H x y v u Q I rx ry ⟨_, _, hK ▸ dp_ok c1.fz q1, (hK ▸ dp_ok c2.fz q2 : Dp X.K H y (D.tup ds).py), q1, q2, q _ H (Ex.refl H) (.bl _)⟩
  | str z =>
    cases d1 with
    | str x1 =>
      obtain ⟨c, e, q⟩ := q
      subst e
      cases c1
      cases c2
      exact op_notIn_sign pins s σ H _ _ v u Q I rx ry ⟨c, z, rfl, rfl, q _ H (Ex.refl H) (.bl _)⟩
    | _ => exact (show False from q).elim
  | _ => cases d1 <;> exact (show False from q).elim

/-! ### a call by keywords -/
variable {e : Expr} {w w1 w2 : WE} {wr wa : WA} {es : List Expr}
/-! ### {} -/
theorem ge_dnew {pos : Pos} : GE X G (.Dict [] [] pos) (fun env Q => Q (.f (.dic [] [])) env) := by
  refine ⟨pe_imp pe_dnewK fun σ H Q ⟨T, env, F, r, q⟩ p np => ?_, fun env Q Q' i q => i _ _ q⟩
  exact q (.ref p) T _ F [] (Att.ex r (Ex.new np)) (res_f (.dic (ks := []) (vs := []) (Rd.of (hid_of upd_same (nT r.trk np))) rfl .nil))

/-! ### all, any of a list of truths -/
def cAll : OpC
  | [.lst ds], Q => ∃ bs : List Bool, ds = bs.map D.bl ∧ Q (.bl (bs.all id))
  | _, _ => False
def cAny : OpC
  | [.lst ds], Q => ∃ bs : List Bool, ds = bs.map D.bl ∧ Q (.bl (bs.any id))
  | _, _ => False
theorem fz_bls {K : PySem.W.Frag} {H : Hp} : ∀ {ys : List Bool} {vs : List V}, FzL K H vs (ys.map D.bl) → vs = ys.map V.bl
  | [], _, h => by cases h; rfl
  | y :: ys, _, h => by
    cases h with
    | cons a b =>
      cases a
      rw [fz_bls b] <;> rfl
theorem cax_all (hc : X.calm = true) (hK : X.K = G.K := by rfl) : CaX X G (.builtin "all") cAll := by
  refine ⟨fun pins s σ H xs us Q I rv ⟨T, ds, t, c, q⟩ => ?_, fun a Q Q' i q => ?_⟩
  · unfold cAll at q
    split at q
    · obtain ⟨bs, rfl, q⟩ := q
      obtain ⟨v, rfl, cv⟩ := cz1 c
      obtain ⟨a, vs, rfl, l, f⟩ := cv
      rw [fz_bls f] at l
      exact cr_all hc pins s σ H _ us Q I rv ⟨a, bs, rfl, by rw [hK]; exact l, q _ H (Ex.refl H) (.bl _)⟩
    · exact q.elim
  · unfold cAll at q ⊢
    split at q
    · obtain ⟨bs, rfl, q⟩ := q
      exact ⟨bs, rfl, i _ q⟩
    · exact q.elim
theorem cax_any (hc : X.calm = true) (hK : X.K = G.K := by rfl) : CaX X G (.builtin "any") cAny := by
  refine ⟨fun pins s σ H xs us Q I rv ⟨T, ds, t, c, q⟩ => ?_, fun a Q Q' i q => ?_⟩
  · unfold cAny at q
    split at q
    · obtain ⟨bs, rfl, q⟩ := q
      obtain ⟨v, rfl, cv⟩ := cz1 c
      obtain ⟨a, vs, rfl, l, f⟩ := cv
      rw [fz_bls f] at l
      exact cr_any hc pins s σ H _ us Q I rv ⟨a, bs, rfl, by rw [hK]; exact l, q _ H (Ex.refl H) (.bl _)⟩
    · exact q.elim
  · unfold cAny at q ⊢
    split at q
    · obtain ⟨bs, rfl, q⟩ := q
      exact ⟨bs, rfl, i _ q⟩
    · exact q.elim

/-! ### methods of a list that change nothing -/
theorem pyL_get : ∀ (ds : List D) (j : Nat), (D.pyL ds)[j]? = (ds[j]?).map D.py
  | [], _ => rfl
  | _ :: _, 0 => rfl
  | _ :: ds, j + 1 => by
    show (D.pyL ds)[j]? = _
    rw [pyL_get ds j] <;> rfl
/-! ### str -/
end
/-! ### [::-1] -/
section
variable {prog : Program} {wo : World} {A : Around} {E : Value → Shared → Prop} {s : Shared}
end
section
variable {X : Cx} {G : Gx} {e : Expr} {w : WE}
end
end Fx

namespace Fx
open PySem PySem.Spec PyProof.Rows L2 Evl Lk

/-! ### values as arguments -/
abbrev WAD := Env → (List D → Env → Prop) → Prop
def MonoAD (w : WAD) : Prop := ∀ env (Q Q' : List D → Env → Prop), (∀ r e, Q r e → Q' r e) → w env Q → w env Q'
def adNil : WAD := fun env Q => Q [] env
def adCons (w : WE) (wr : WAD) : WAD := fun env Q => w env fun r e => ∃ d, r = .f d ∧ wr e fun ds e2 => Q (d :: ds) e2
def agD (d : D) : Ag := .v (.f d)
def waD (wd : WAD) : WA := fun env Q => wd env fun ds e => Q (ds.map agD) e
theorem argsD_map : ∀ ds : List D, argsD (ds.map agD) = some ds
  | [] => rfl
  | d :: ds => by
    show (argsD (ds.map agD)).map (d :: ·) = _
    rw [argsD_map ds] <;> rfl
theorem resA_map (e : Env) : ∀ ds : List D, resA (ds.map agD) e = some (ds.map Sl.f)
  | [] => rfl
  | d :: ds => by
    show (resA (ds.map agD) e).map (Sl.f d :: ·) = _
    rw [resA_map e ds] <;> rfl
theorem agOk_map : ∀ ds : List D, agOk (ds.map agD) = true
  | [] => rfl
  | d :: ds => agOk_map ds
theorem idx_map (i : Nat) : ∀ ds : List D, idxOwn (ds.map agD) i = none
  | [] => rfl
  | d :: ds => by
    show (idxOwn (ds.map agD) i).map (· + 1) = none
    rw [idx_map i ds] <;> rfl
theorem wbGo_map (ds : List D) (as' : List Sl) : ∀ (i : Nat) (e : Env), wbGo (ds.map agD) as' i e = e
  | _, [] => rfl
  | i, s :: e => by
    rw [wbGo, idx_map, wbGo_map ds as' (i + 1) e]
theorem cdL_map : ∀ ds : List D, cdL (ds.map Sl.f) = some ds
  | [] => rfl
  | d :: ds => by
    rw [List.map_cons, cdL, cdL_map ds] <;> rfl
theorem any_map (i : Nat) : ∀ ds : List D, (ds.map agD).any (slotIs i) = false
  | [] => rfl
  | d :: ds => any_map i ds
structure GD (X : Cx) (G : Gx) (es : List Expr) (wd : WAD) : Prop where
  ga : GA X G es (waD wd)
  mono : MonoAD wd
section
variable {X : Cx} {G : Gx} {e : Expr} {es : List Expr} {w w' : WE} {wa wa' : WA} {wd wr : WAD}
theorem ge_imp (h : GE X G e w) (i : ∀ env Q, w' env Q → w env Q) (m : MonoE w') : GE X G e w' := ⟨pe_imp h.pe fun σ H Q ⟨T, env, F, r, q⟩ => ⟨T, env, F, r, i _ _ q⟩, m⟩
theorem ga_imp (h : GA X G es wa) (i : ∀ env Q, wa' env Q → wa env Q) (m : MonoA wa') : GA X G es wa' := ⟨pa_imp h.pa fun σ H Q ⟨T, env, F, r, q⟩ => ⟨T, env, F, r, i _ _ q⟩, m⟩
theorem mono_waD (m : MonoAD wd) : MonoA (waD wd) := fun env Q Q' i q => m _ _ _ (fun ds e q => i _ _ q) q
theorem mono_adNil : MonoAD adNil := fun env Q Q' i q => i _ _ q
theorem mono_adCons (m : MonoE w) (n : MonoAD wr) : MonoAD (adCons w wr) := fun env Q Q' i q => m _ _ _ (fun r e ⟨d, hd, q⟩ => ⟨d, hd, n _ _ _ (fun ds e q => i _ _ q) q⟩) q
theorem ad_cons (m : MonoE w) {env : Env} {Q : List Ag → Env → Prop} (q : waD (adCons w wr) env Q) : waCons w (waD wr) env Q := m _ _ _ (fun r e ⟨d, hd, q⟩ => by
  subst hd
  exact ⟨nofun, q⟩) q
theorem gd_nil : GD X G [] adNil := ⟨ga_imp ga_nil (fun _ _ q => q) (mono_waD mono_adNil), mono_adNil⟩
theorem gd_cons (ha : GE X G e w) (hr : GD X G es wr) (hs : starEach (e :: es) X.env = (false, eval e X.env) :: starEach es X.env := by rfl) : GD X G (e :: es) (adCons w wr) :=
  ⟨ga_imp (ga_cons ha hr.ga hs) (fun _ _ q => ad_cons ha.mono q) (mono_waD (mono_adCons ha.mono hr.mono)), mono_adCons ha.mono hr.mono⟩
/-! displays -/
def wTupD (wd : WAD) : WE := fun env Q => wd env fun ds e => ds.length ≤ sizeLine ∧ Q (.f (.tup ds)) e
def wLstD (wd : WAD) : WE := fun env Q => wd env fun ds e => ds.length ≤ sizeLine ∧ Q (.f (.lst ds)) e
def wLstOD (wd : WAD) : WE := fun env Q => wd env fun ds e => ds.length ≤ sizeLine ∧ Q (.own (.lst ds)) e
theorem ge_tupD {k : Nat} {pos : Pos} (h : GD X G es wd) : GE X G (.Tuple es k pos) (wTupD wd) :=
  ge_imp (ge_tup h.ga) (fun env Q q => h.mono _ _ _ (fun ds e ⟨z, q⟩ => ⟨ds, argsD_map ds, z, q⟩) q) fun env Q Q' i q => h.mono _ _ _ (fun ds e ⟨z, q⟩ => ⟨z, i _ _ q⟩) q
theorem ge_lstD {pos : Pos} (h : GD X G es wd) : GE X G (.List es pos) (wLstD wd) :=
  ge_imp (ge_lst h.ga) (fun env Q q => h.mono _ _ _ (fun ds e ⟨z, q⟩ => ⟨ds, argsD_map ds, z, q⟩) q) fun env Q Q' i q => h.mono _ _ _ (fun ds e ⟨z, q⟩ => ⟨z, i _ _ q⟩) q
theorem ge_lstOD {pos : Pos} (h : GD X G es wd) : GE X G (.List es pos) (wLstOD wd) :=
  ge_imp (ge_lstO h.ga) (fun env Q q => h.mono _ _ _ (fun ds e ⟨z, q⟩ => ⟨ds, argsD_map ds, z, q⟩) q) fun env Q Q' i q => h.mono _ _ _ (fun ds e ⟨z, q⟩ => ⟨z, i _ _ q⟩) q
/-! built-ins -/
def wCBD (o : OpC) (wd : WAD) : WE := fun env Q => wd env fun ds e => o ds fun d => Q (.f d) e
theorem mono_cbd {o : OpC} (m : MonoAD wd) (mo : MonoC o) : MonoE (wCBD o wd) := fun env Q Q' i q => m _ _ _ (fun ds e q => mo _ _ _ (fun d q => i _ _ q) q) q
theorem cbd_cb {o : OpC} (m : MonoAD wd) {env : Env} {Q : Sl → Env → Prop} (q : wCBD o wd env Q) : wCB o (waD wd) env Q := m _ _ _ (fun ds e q => ⟨_, ds, resA_map e ds, cdL_map ds, q⟩) q
theorem ge_cbB {o : OpC} {id : String} {x : Str} {p pos : Pos} (c : CaX X G (.builtin id) o) (hg : Gl X x) (hm : X.mg x = none) (hv : bootBuiltins x = some (.builtin id)) (ha : GD X G (e :: es) wd) (hn : x ≠ "__name__" := by decide) (hdb : (x == ("__debug__" : Str)) = false := by decide)
    (he : starEach (e :: es) X.env = (false, eval e X.env) :: starEach es X.env := by rfl) (hpl : (backTo pos (starEach es X.env)).any (·.1) = false := by rfl) : GE X G (.Call (.Name x p) (e :: es) [] pos) (wCBD o wd) :=
  ge_imp (ge_cb (pe_callB c.ok hg hm hv ha.ga.pa hn hdb he hpl) ha.ga.mono c.mono) (fun _ _ q => cbd_cb ha.mono q) (mono_cbd ha.mono c.mono)
theorem ge_cbT {o : OpC} {id : String} {x : Str} {p pos : Pos} (c : CaX X G (.type id) o) (hg : Gl X x) (hm : X.mg x = none) (hv : bootBuiltins x = some (.type id)) (ha : GD X G (e :: es) wd) (hn : x ≠ "__name__" := by decide) (hdb : (x == ("__debug__" : Str)) = false := by decide)
    (he : starEach (e :: es) X.env = (false, eval e X.env) :: starEach es X.env := by rfl) (hpl : (backTo pos (starEach es X.env)).any (·.1) = false := by rfl) : GE X G (.Call (.Name x p) (e :: es) [] pos) (wCBD o wd) :=
  ge_imp (ge_cb (pe_callTy c.ok hg hm hv ha.ga.pa hn hdb he hpl) ha.ga.mono c.mono) (fun _ _ q => cbd_cb ha.mono q) (mono_cbd ha.mono c.mono)
/-- f(x), x a name whatever it holds -/
def wCB1 (o : OpC) (i : Nat) : WE := fun env Q => ∃ s d, env[i]? = some (some s) ∧ s.cd = some d ∧ o [d] fun d => Q (.f d) env
theorem mono_cb1 {o : OpC} {i : Nat} (mo : MonoC o) : MonoE (wCB1 o i) := fun env Q Q' j ⟨s, d, h1, h2, q⟩ => ⟨s, d, h1, h2, mo _ _ _ (fun d q => j _ _ q) q⟩
theorem cb1_cb {o : OpC} {i : Nat} {env : Env} {Q : Sl → Env → Prop} (q : wCB1 o i env Q) : wCB o (waSlot i false waNil) env Q := by
  obtain ⟨s, d, h1, h2, q⟩ := q
  refine ⟨⟨s, h1⟩, ?_⟩
  cases s with
  | f d' => exact ⟨[.f d'], [d], by simp only [resA, h1]; rfl, by simp only [cdL, h2], q⟩
  | own o' => exact ⟨[.vw o'], [d], by simp only [resA, h1]; rfl, by simp only [cdL]; rw [show (Sl.vw o').cd = some d from h2], q⟩
  | vw o' => exact ⟨[.vw o'], [d], by simp only [resA, h1]; rfl, by simp only [cdL, h2], q⟩
theorem ge_cbB1 {o : OpC} {id : String} {x : Str} {i : Nat} {p pos : Pos} (c : CaX X G (.builtin id) o) (hg : Gl X x) (hm : X.mg x = none) (hv : bootBuiltins x = some (.builtin id)) (ha : PE X e (tVar i)) (hn : x ≠ "__name__" := by decide) (hdb : (x == ("__debug__" : Str)) = false := by decide)
    (he : starEach [e] X.env = (false, eval e X.env) :: starEach [] X.env := by rfl) (hpl : (backTo pos (starEach [] X.env)).any (·.1) = false := by rfl) : GE X G (.Call (.Name x p) [e] [] pos) (wCB1 o i) :=
  ge_imp (ge_cb (pe_callB c.ok hg hm hv (ga_slot ha ga_nil he).pa hn hdb he hpl) (ga_slot (G := G) ha ga_nil he).mono c.mono) (fun _ _ q => cb1_cb q) (mono_cb1 c.mono)
theorem ge_cbT1 {o : OpC} {id : String} {x : Str} {i : Nat} {p pos : Pos} (c : CaX X G (.type id) o) (hg : Gl X x) (hm : X.mg x = none) (hv : bootBuiltins x = some (.type id)) (ha : PE X e (tVar i)) (hn : x ≠ "__name__" := by decide) (hdb : (x == ("__debug__" : Str)) = false := by decide)
    (he : starEach [e] X.env = (false, eval e X.env) :: starEach [] X.env := by rfl) (hpl : (backTo pos (starEach [] X.env)).any (·.1) = false := by rfl) : GE X G (.Call (.Name x p) [e] [] pos) (wCB1 o i) :=
  ge_imp (ge_cb (pe_callTy c.ok hg hm hv (ga_slot ha ga_nil he).pa hn hdb he hpl) (ga_slot (G := G) ha ga_nil he).mono c.mono) (fun _ _ q => cb1_cb q) (mono_cb1 c.mono)
/-! calls of defs -/
abbrev WFn := List D → (Sl → Prop) → Prop
abbrev WUn := O → List D → (Sl → O → Prop) → Prop
def liftF (W : WFn) : WD := fun as Q => ∃ ds, as = ds.map Sl.f ∧ W ds fun r => Q r (ds.map Sl.f)
def liftU (W : WUn) : WD := fun as Q => ∃ o ds, as = .own o :: ds.map Sl.f ∧ W o ds fun r o' => Q r (.own o' :: ds.map Sl.f)
def MonoF (W : WFn) : Prop := ∀ ds (Q Q' : Sl → Prop), (∀ d, Q d → Q' d) → W ds Q → W ds Q'
def MonoU2 (W : WUn) : Prop := ∀ o ds (Q Q' : Sl → O → Prop), (∀ r o, Q r o → Q' r o) → W o ds Q → W o ds Q'
theorem mono_liftF {W : WFn} (m : MonoF W) : MonoD (liftF W) := fun as Q Q' i ⟨ds, h, q⟩ => ⟨ds, h, m _ _ _ (fun d q => i _ _ q) q⟩
theorem mono_liftU {W : WUn} (m : MonoU2 W) : MonoD (liftU W) := fun as Q Q' i ⟨o, ds, h, q⟩ => ⟨o, ds, h, m _ _ _ _ (fun r o q => i _ _ q) q⟩
def wCallF (W : WFn) (wd : WAD) : WE := fun env Q => wd env fun ds e => W ds fun r => Q r e
def wCallU (i : Nat) (W : WUn) (wd : WAD) : WE := fun env Q => (∃ s, env[i]? = some (some s)) ∧ wd env fun ds e => ∃ o, e[i]? = some (some (.own o)) ∧ W o ds fun r o' => Q r (e.set i (some (.own o')))
theorem callF_call {W : WFn} (m : MonoF W) (n : MonoAD wd) {env : Env} {Q : Sl → Env → Prop} (q : wCallF W wd env Q) : wCall (liftF W) (waD wd) env Q :=
  n _ _ _ (fun ds e q => ⟨_, resA_map e ds, agOk_map ds, ds, rfl, m _ _ _ (fun d q => ⟨rfl, by rw [wbGo_map]; exact q⟩) q⟩) q
theorem mono_callF {W : WFn} (m : MonoF W) (n : MonoAD wd) : MonoE (wCallF W wd) := fun env Q Q' i q => n _ _ _ (fun ds e q => m _ _ _ (fun d q => i _ _ q) q) q
theorem mono_callU {i : Nat} {W : WUn} (m : MonoU2 W) (n : MonoAD wd) : MonoE (wCallU i W wd) := fun env Q Q' j ⟨h, q⟩ => ⟨h, n _ _ _ (fun ds e ⟨o, h, q⟩ => ⟨o, h, m _ _ _ _ (fun r o q => j _ _ q) q⟩) q⟩
theorem wb_own (ds : List D) (o' : Sl) (r : List Sl) (i : Nat) : ∀ (k : Nat) (e : Env), wbGo (.slot (k + i) true :: ds.map agD) (o' :: r) k e = e.set i (some o')
  | _, [] => by cases i <;> rfl
  | k, s :: e => by
    have idx : ∀ j, idxOwn (.slot (k + i) true :: ds.map agD) j = if k + i = j then some 0 else none := fun j => by
      show (if k + i = j then some 0 else (idxOwn (ds.map agD) j).map (· + 1)) = _
      rw [idx_map]
      rfl
    rw [wbGo, idx]
    cases i with
    | zero =>
      rw [if_pos (Nat.add_zero k)]
      show some o' :: wbGo _ _ (k + 1) e = some o' :: e
      congr 1
      have none_ : ∀ (m : Nat) (e : Env), k < m → wbGo (.slot (k + 0) true :: ds.map agD) (o' :: r) m e = e := by
        intro m e
        induction e generalizing m with
        | nil => intro _; rfl
        | cons s e ih =>
          intro hm
          rw [wbGo, idx, if_neg (by omega), ih (m + 1) (by omega)]
      exact none_ (k + 1) e (by omega)
    | succ i =>
      rw [if_neg (by omega)]
      show s :: wbGo _ _ (k + 1) e = s :: e.set i (some o')
      congr 1
      have := wb_own ds o' r i (k + 1) e
      rw [show k + 1 + i = k + (i + 1) by omega] at this
      exact this
theorem callU_call {i : Nat} {W : WUn} (m : MonoU2 W) (n : MonoAD wd) {env : Env} {Q : Sl → Env → Prop} (q : wCallU i W wd env Q) : wCall (liftU W) (waSlot i true (waD wd)) env Q := by
  obtain ⟨h, q⟩ := q
  refine ⟨h, n _ _ _ (fun ds e ⟨o, h, q⟩ => ?_) q⟩
  refine ⟨.own o :: ds.map Sl.f, by simp only [resA, h, resA_map]; rfl, ?_, o, ds, rfl, m _ _ _ _ (fun r o' q => ⟨rfl, ?_⟩) q⟩
  · show (!(ds.map agD).any (slotIs i) && agOk (ds.map agD)) = true
    rw [any_map, agOk_map]
    rfl
  · have := wb_own ds (.own o') (ds.map Sl.f) i 0 e
    rw [Nat.zero_add] at this
    rw [this]
    exact q
variable {x : Str} {k j : Nat} {tabs : List Addr} {p pos : Pos}
theorem ge_callF {W : WFn} (c : Cal X.prog X.w X.K X.mg X.base k x (spW X.K tabs (liftF W))) (hr : Room j X.A) (hk : k ≤ j) (hg : Gl X x) (hK : X.K = G.K) (ht : tabs = G.tabs) (mW : MonoF W) (ha : GD X G (e :: es) wd)
    (hdb : (x == ("__debug__" : Str)) = false := by decide) (he : starEach (e :: es) X.env = (false, eval e X.env) :: starEach es X.env := by rfl) (hpl : (backTo pos (starEach es X.env)).any (·.1) = false := by rfl) :
    GE X G (.Call (.Name x p) (e :: es) [] pos) (wCallF W wd) :=
  ge_imp (ge_call c hr hk hg hK ht (mono_liftF mW) ha.ga hdb he hpl) (fun _ _ q => callF_call mW ha.mono q) (mono_callF mW ha.mono)
theorem ge_callU {i : Nat} {W : WUn} (c : Cal X.prog X.w X.K X.mg X.base k x (spW X.K tabs (liftU W))) (hr : Room j X.A) (hk : k ≤ j) (hg : Gl X x) (hK : X.K = G.K) (ht : tabs = G.tabs) (mW : MonoU2 W) (hv : PE X e (tVar i)) (ha : GD X G es wd)
    (hdb : (x == ("__debug__" : Str)) = false := by decide) (he : starEach (e :: es) X.env = (false, eval e X.env) :: starEach es X.env := by rfl) (hpl : (backTo pos (starEach es X.env)).any (·.1) = false := by rfl) :
    GE X G (.Call (.Name x p) (e :: es) [] pos) (wCallU i W wd) :=
  ge_imp (ge_call c hr hk hg hK ht (mono_liftU mW) (ga_slot hv ha.ga he) hdb he hpl) (fun _ _ q => callU_call mW ha.mono q) (mono_callU mW ha.mono)
end

/-! ### defs -/
section
variable {P : Program} {w : World} {K : PySem.W.Frag} {mg : Str → Option Value} {base : Heap} {x : Str} {st : Stmt} {N ps : List Str} {k : Nat} {tabs : List Addr}
theorem outOk_f : ∀ (ds : List D) (env : Env), ds.length ≤ env.length → OutOk (List.replicate ds.length false) (ds.map Sl.f) env ∧ outA (List.replicate ds.length false) (ds.map Sl.f) env = ds.map Sl.f
  | [], _, _ => ⟨True.intro, by unfold outA; rfl⟩
  | d :: ds, [], h => absurd h (by simp)
  | d :: ds, e :: env, h => by
    obtain ⟨h1, h2⟩ := outOk_f ds env (by simpa using h)
    refine ⟨⟨?_, h1⟩, ?_⟩
    · rw [if_neg Bool.false_ne_true]
      exact nofun
    · show (if false = true then _ else Sl.f d) :: outA (List.replicate ds.length false) (ds.map Sl.f) env = Sl.f d :: ds.map Sl.f
      rw [h2] <;> rfl
theorem fx_fnF {W : WFn} {f : Addr} {fd : FuncData} (F : Fun K x x st f fd) (S : FnScope N ps (defScope st)) (hlen : ∀ ds Q, W ds Q → ds.length = ps.length)
    (hbody : ∀ (cdv : Value) (A : Around) (outer : List PySem.Env) (s : Shared) (H : Hp) (E : XK) (T : Addr → Prop) (P0 : Addr → Prop) (σ0 : L2.St), fd.code = cdv → Room k (A.deeper (envOfC x (defScope st) s.heap.objs.size f cdv)) →
      ∃ ws, GSs (cxOf CX0 P w K mg base N x (defScope st) f cdv A outer s H E).nox ⟨K, tabs, T, H, P0, σ0, fun i => (List.replicate ps.length false).getD i false, fun _ _ => False, fun _ => none⟩ (defBody st) ws ∧
        ∀ ds Q, W ds Q → ws ⟨fun env => ps.length ≤ env.length ∧ Q (.f .non), fun r env => ps.length ≤ env.length ∧ Q r, fun _ => False, fun _ => False⟩ (startE N (ds.map Sl.f))) : FnOk P w K mg base CX0 (k + 1) f fd ps (spW K tabs (liftF W)) := by
  refine fx_fn (List.replicate ps.length false) F S (fun as Q ⟨ds, h, q⟩ => by rw [h, List.length_map]; exact hlen _ _ q) fun cdv A outer s H E T P0 σ0 hcd hr => ?_
  obtain ⟨ws, h1, h2⟩ := hbody cdv A outer s H E T P0 σ0 hcd hr
  refine ⟨ws, h1, fun as Q ⟨ds, h, q⟩ => ?_⟩
  subst h
  have hl := hlen _ _ q
  refine h1.mono _ _ _ ?_ (h2 ds _ q)
  refine ⟨fun env ⟨l, q⟩ => ?_, fun r env ⟨l, q⟩ => ?_, fun _ h => h.elim, fun _ h => h.elim⟩
  · obtain ⟨a, b⟩ := outOk_f ds env (by rw [hl]; exact l)
    rw [hl] at a b
    exact ⟨a, by rw [b]; exact q⟩
  · obtain ⟨a, b⟩ := outOk_f ds env (by rw [hl]; exact l)
    rw [hl] at a b
    exact ⟨a, by rw [b]; exact q⟩
theorem fx_fnU {W : WUn} {f : Addr} {fd : FuncData} {p : Str} (F : Fun K x x st f fd) (S : FnScope N (p :: ps) (defScope st)) (hlen : ∀ o ds Q, W o ds Q → ds.length = ps.length)
    (hbody : ∀ (cdv : Value) (A : Around) (outer : List PySem.Env) (s : Shared) (H : Hp) (E : XK) (T : Addr → Prop) (P0 : Addr → Prop) (σ0 : L2.St), fd.code = cdv → Room k (A.deeper (envOfC x (defScope st) s.heap.objs.size f cdv)) →
      ∃ ws, GSs (cxOf CX0 P w K mg base N x (defScope st) f cdv A outer s H E).nox ⟨K, tabs, T, H, P0, σ0, fun i => (true :: List.replicate ps.length false).getD i false, fun _ _ => False, fun _ => none⟩ (defBody st) ws ∧
        ∀ o ds Q, W o ds Q → ws ⟨fun env => (p :: ps).length ≤ env.length ∧ ∃ o', env[0]? = some (some (.own o')) ∧ Q (.f .non) o', fun r env => (p :: ps).length ≤ env.length ∧ ∃ o', env[0]? = some (some (.own o')) ∧ Q r o', fun _ => False, fun _ => False⟩ (startE N (.own o :: ds.map Sl.f))) : FnOk P w K mg base CX0 (k + 1) f fd (p :: ps) (spW K tabs (liftU W)) := by
  refine fx_fn (true :: List.replicate ps.length false) F S (fun as Q ⟨o, ds, h, q⟩ => by rw [h, List.length_cons, List.length_map, hlen _ _ _ q]; rfl) fun cdv A outer s H E T P0 σ0 hcd hr => ?_
  obtain ⟨ws, h1, h2⟩ := hbody cdv A outer s H E T P0 σ0 hcd hr
  refine ⟨ws, h1, fun as Q ⟨o, ds, h, q⟩ => ?_⟩
  subst h
  have hl := hlen _ _ _ q
  have fin : ∀ (r : Sl) (env : Env), (p :: ps).length ≤ env.length → ∀ o', env[0]? = some (some (.own o')) → Q r (.own o' :: ds.map Sl.f) → OutOk (true :: List.replicate ps.length false) (.own o :: ds.map Sl.f) env ∧ Q r (outA (true :: List.replicate ps.length false) (.own o :: ds.map Sl.f) env) := by
    intro r env l o' he q
    cases env with
    | nil => exact absurd l (by simp)
    | cons e env =>
      obtain rfl : e = some (.own o') := by simpa using he
      obtain ⟨a, b⟩ := outOk_f ds env (by rw [hl]; simpa using l)
      rw [hl] at a b
      refine ⟨⟨by rw [if_pos rfl]; exact ⟨o', rfl⟩, a⟩, ?_⟩
      show Q r ((if true = true then Sl.own o' else _) :: outA (List.replicate ps.length false) (ds.map Sl.f) env)
      rw [b, if_pos rfl]
      exact q
  refine h1.mono _ _ _ ?_ (h2 o ds _ q)
  exact ⟨fun env ⟨l, o', he, q⟩ => fin _ env l o' he q, fun r env ⟨l, o', he, q⟩ => fin _ env l o' he q, fun _ h => h.elim, fun _ h => h.elim⟩
end
end Fx

namespace Fx
open PySem PySem.Spec PyProof.Rows L2 Evl Lk

/-! ### rules that take readings over trees alone -/
section
variable {X : Cx} {G : Gx} {e : Expr} {we : WE} {pos pos' : Pos} {x : Str} {i : Nat}
theorem gs_setE (hN : X.N.Nodup) (hi : X.N[i]? = some x) (hx : Loc X.env.scope x) (he : GE X G e we) (hp : G.prot i = false := by rfl) (hs : swapsWith e (some (.Name x pos')) pos.line X.env = pure false := by rfl)
    (hf : X.fn x = true ∨ X.env.scope.names.lookup x = some .local := by first | exact .inl rfl | exact .inr rfl) : GS X G (.Assign [.Name x pos'] e pos) (wSet i we) :=
  gs_set (ps_set hN hi hx he.pe hs hf) he.mono hp
theorem gp_k {d : D} (h : ∃ v u, X.mg x = some u ∧ RelV v u ∧ ∀ H, Fz G.K H v d) (hg : Gl X x) (hd : (x == ("__debug__" : Str)) = false := by decide) : GP X G (.Name x pos) (wC d) := by
  obtain ⟨v, u, h1, h2, h3⟩ := h
  exact gp_glob (pe_glob hg h1 h2 hd) h3
theorem gp_ty {n : String} (hg : Gl X x) (hm : X.mg x = none) (hv : bootBuiltins x = some (.type n)) (hn : x ≠ "__name__" := by decide) (hd : (x == ("__debug__" : Str)) = false := by decide) : GP X G (.Name x pos) (wC (.ty n)) :=
  gp_c (pe_bltn (v := .ty n) hg hm hv rfl hn hd) fun _ _ => .ty n
/-! negatives -/
def uNeg : Op1
  | .int i, Q => Q (.int (-i))
  | _, _ => False
theorem unx_neg : UnX X G (unaryOp .USub) uNeg := by
  refine ⟨fun pins s σ H x v Q I rx ⟨T, d, t, c, q⟩ => ?_, fun a Q Q' i q => ?_⟩
  · cases d with
    | int i =>
      cases c
      exact un_neg pins s σ H _ v Q I rx ⟨i, rfl, q _ H (Ex.refl H) (.int _)⟩
    | _ => exact (show False from q).elim
  · cases a <;> first | exact i _ q | exact q
/-! comprehensions -/
end
section
variable {X : Cx} {G : Gx} {elt tg iter c : Expr} {scope : Scope} {own : List (Str × Nat)} {pos spos py : Pos} {wi : WI} {t : Tgt} {w : WE} {wt : WT} {y : Str} {i : Nat}
abbrev GEB (X : Cx) (scope : Scope) (G : Gx) (elt : Expr) (w : WE) : Prop := ∀ (s : Shared) (H : Hp) (C : Addr) (cl : List (Str × Addr)) (fp : List Addr), GE (X.blk s H scope (compEnvC scope cl C X.env) fp) G elt w
abbrev GTB (X : Cx) (scope : Scope) (G : Gx) (elt : Expr) (w : WT) : Prop := ∀ (s : Shared) (H : Hp) (C : Addr) (cl : List (Str × Addr)) (fp : List Addr), GT (X.blk s H scope (compEnvC scope cl C X.env) fp) G elt w
abbrev PGB (X : Cx) (scope : Scope) (tg : Expr) (t : TG) : Prop := ∀ (s : Shared) (H : Hp) (C : Addr) (cl : List (Str × Addr)) (fp : List Addr), PG (X.blk s H scope (compEnvC scope cl C X.env) fp) tg t
theorem allB_mono {w : WE} (h : GEB X scope G elt w) : MonoE w := (h {} (fun _ => none) 0 [] []).mono
theorem allB_monoT {w : WT} (h : GTB X scope G elt w) : MonoT w := (h {} (fun _ => none) 0 [] []).mono
theorem ge_lcR (hc : X.calm = true) (hN : X.N.Nodup) (hi : GI X G tg iter wi) (ok : BlkOk X.N X.env.scope scope own) (hg : PGB X scope tg (t.tg G.K)) (he : GEB X scope G elt w)
    (hsub : ∀ j ∈ t.js, j ∈ own.map (·.2)) (hp : ∀ i ∈ own.map (·.2), G.prot i = false) (hL : ∀ i ∈ own.map (·.2), i < X.N.length) (hs : ∀ x, foldedSetIterable iter X.env x = pure x := by intro _; rfl) :
    GE X G (.ListComp elt [⟨tg, iter, [], 0⟩] scope pos) (wLc wi t (own.map (·.2)) wYes w) :=
  ge_lc (tt := tYes) (L2.pe_lc hc hN hi.pi ok hg (fun _ _ _ _ _ => pts_nil) (fun s H C cl fp => (he s H C cl fp).pe) hs) hi.mono (allB_mono he) (fun _ _ _ q => tt_yes q) mono_yes hsub hp hL
theorem ge_lcR1 (hc : X.calm = true) (hN : X.N.Nodup) (hi : GI X G tg iter wi) (ok : BlkOk X.N X.env.scope scope own) (hg : PGB X scope tg (t.tg G.K)) (ht : GTB X scope G c wt) (he : GEB X scope G elt w)
    (hsub : ∀ j ∈ t.js, j ∈ own.map (·.2)) (hp : ∀ i ∈ own.map (·.2), G.prot i = false) (hL : ∀ i ∈ own.map (·.2), i < X.N.length) (hs : ∀ x, foldedSetIterable iter X.env x = pure x := by intro _; rfl) :
    GE X G (.ListComp elt [⟨tg, iter, [c], 0⟩] scope pos) (wLc wi t (own.map (·.2)) wt w) :=
  ge_lc (L2.pe_lc hc hN hi.pi ok hg (fun s H C cl fp => pts_one (ht s H C cl fp).pt) (fun s H C cl fp => (he s H C cl fp).pe) hs) hi.mono (allB_mono he) (fun _ _ _ q => q) (allB_monoT ht) hsub hp hL
/-- name = [..], the name is not the comprehension's -/
theorem gs_lcR (hc : X.calm = true) (hN : X.N.Nodup) (hy : X.N[i]? = some y) (hyl : X.env.scope.names.lookup y = some .local) (hsw : swapsWith (.ListComp elt [⟨tg, iter, [], 0⟩] scope pos) (some (.Name y py)) spos.line X.env = pure true)
    (hi : GI X G tg iter wi) (ok : BlkOk X.N X.env.scope scope own) (hg : PGB X scope tg (t.tg G.K)) (he : GEB X scope G elt w)
    (hsub : ∀ j ∈ t.js, j ∈ own.map (·.2)) (hp : ∀ i ∈ own.map (·.2), G.prot i = false) (hL : ∀ i ∈ own.map (·.2), i < X.N.length) (hpi : G.prot i = false := by rfl) (hs : ∀ x, foldedSetIterable iter X.env x = pure x := by intro _; rfl) :
    GS X G (.Assign [.Name y py] (.ListComp elt [⟨tg, iter, [], 0⟩] scope pos) spos) (wSet i (wLc wi t (own.map (·.2)) wYes w)) :=
  gs_setLc (tt := tYes) (L2.ps_setLc hc hN hy hyl hsw hi.pi ok hg (fun _ _ _ _ _ => pts_nil) (fun s H C cl fp => (he s H C cl fp).pe) hs) hi.mono (allB_mono he) (fun _ _ _ q => tt_yes q) mono_yes hsub hp hL hpi
theorem gs_lcFR (hc : X.calm = true) (hN : X.N.Nodup) (hy : X.N[i]? = some y) (hyl : X.env.scope.names.lookup y = some .local) (hsw : swapsWith (.ListComp elt [⟨tg, iter, [], 0⟩] scope pos) (some (.Name y py)) spos.line X.env = pure true)
    (hi : GI X G tg iter wi) (ok : BlkOk X.N X.env.scope scope own) (hg : PGB X scope tg (t.tg G.K)) (he : GEB X scope G elt w)
    (hsub : ∀ j ∈ t.js, j ∈ own.map (·.2)) (hp : ∀ i ∈ own.map (·.2), G.prot i = false) (hL : ∀ i ∈ own.map (·.2), i < X.N.length) (hpi : G.prot i = false := by rfl) (hs : ∀ x, foldedSetIterable iter X.env x = pure x := by intro _; rfl) :
    GS X G (.Assign [.Name y py] (.ListComp elt [⟨tg, iter, [], 0⟩] scope pos) spos) (wSet i (wFrz (wLc wi t (own.map (·.2)) wYes w))) :=
  gs_setLcF (tt := tYes) (L2.ps_setLc hc hN hy hyl hsw hi.pi ok hg (fun _ _ _ _ _ => pts_nil) (fun s H C cl fp => (he s H C cl fp).pe) hs) hi.mono (allB_mono he) (fun _ _ _ q => tt_yes q) mono_yes hsub hp hL hpi
theorem gs_lcFR1 (hc : X.calm = true) (hN : X.N.Nodup) (hy : X.N[i]? = some y) (hyl : X.env.scope.names.lookup y = some .local) (hsw : swapsWith (.ListComp elt [⟨tg, iter, [c], 0⟩] scope pos) (some (.Name y py)) spos.line X.env = pure true)
    (hi : GI X G tg iter wi) (ok : BlkOk X.N X.env.scope scope own) (hg : PGB X scope tg (t.tg G.K)) (ht : GTB X scope G c wt) (he : GEB X scope G elt w)
    (hsub : ∀ j ∈ t.js, j ∈ own.map (·.2)) (hp : ∀ i ∈ own.map (·.2), G.prot i = false) (hL : ∀ i ∈ own.map (·.2), i < X.N.length) (hpi : G.prot i = false := by rfl) (hs : ∀ x, foldedSetIterable iter X.env x = pure x := by intro _; rfl) :
    GS X G (.Assign [.Name y py] (.ListComp elt [⟨tg, iter, [c], 0⟩] scope pos) spos) (wSet i (wFrz (wLc wi t (own.map (·.2)) wt w))) :=
  gs_setLcF (L2.ps_setLc hc hN hy hyl hsw hi.pi ok hg (fun s H C cl fp => pts_one (ht s H C cl fp).pt) (fun s H C cl fp => (he s H C cl fp).pe) hs) hi.mono (allB_mono he) (fun _ _ _ q => q) (allB_monoT ht) hsub hp hL hpi
end

/-! ### what is left to show, step by step -/
section
variable {env e : Env} {Q : Sl → Env → Prop} {QD : D → Prop} {QT : Bool → Env → Prop} {n b c : Env → Prop} {r : Sl → Env → Prop} {w w1 w2 w3 : WE} {v1 v2 : WP} {t u : WT} {s1 s2 : WS} {i : Nat} {o : Op2}
theorem x_seq (h : s1 ⟨fun e => s2 ⟨n, r, b, c⟩ e, r, b, c⟩ env) : wSeq s1 s2 ⟨n, r, b, c⟩ env := h
theorem x_next (h : n env) : wNext ⟨n, r, b, c⟩ env := h
theorem x_ret (h : w env fun s e => (∀ o, s ≠ .vw o) ∧ r s e) : wRet w ⟨n, r, b, c⟩ env := h
theorem x_ifS (h : t env fun k e => if k = true then s1 ⟨n, r, b, c⟩ e else s2 ⟨n, r, b, c⟩ e) : wIfS t s1 s2 ⟨n, r, b, c⟩ env := h
theorem x_set (h : w env fun s e => (∀ o, s ≠ .vw o) ∧ i < e.length ∧ n (e.set i (some s))) : wSet i w ⟨n, r, b, c⟩ env := h
theorem x_asg {g : WG} (h : w env fun s e => ∃ d, s = .f d ∧ g d e n) : wAsg w g ⟨n, r, b, c⟩ env := h
theorem x_gn {d : D} {q : Env → Prop} (h : i < env.length) (h2 : q (env.set i (some (.f d)))) : gn i d env q := ⟨h, h2⟩
theorem x_gtp {k : Nat} {ug : WGs} {ds : List D} {q : Env → Prop} (h : ds.length = k) (h2 : ug ds env q) : gTp k ug (.tup ds) env q := ⟨ds, rfl, h, h2⟩
theorem x_gnil {q : Env → Prop} (h : q env) : gsNil [] env q := ⟨rfl, h⟩
theorem x_gcons {g : WG} {ug : WGs} {d : D} {ds : List D} {q : Env → Prop} (h : g d env fun e => ug ds e q) : gsCons g ug (d :: ds) env q := ⟨d, ds, rfl, h⟩
theorem x_fin {d : D} {p : Prop} (h : p) : (∀ o, Sl.f d ≠ .vw o) ∧ p := ⟨nofun, h⟩
theorem x_fino {d : O} {p : Prop} (h : p) : (∀ o, Sl.own d ≠ .vw o) ∧ p := ⟨nofun, h⟩
theorem x_and {p q : Prop} (h : p) (h2 : q) : p ∧ q := ⟨h, h2⟩
theorem x_varF {d : D} {q : Sl → Prop} (h : env[i]? = some (some (.f d))) (h2 : q (.f d)) : wVar i env q := by unfold wVar; rw [h]; exact h2
theorem x_varO {o : O} {q : Sl → Prop} (h : env[i]? = some (some (.own o))) (h2 : q (.vw o)) : wVar i env q := by unfold wVar; rw [h]; exact h2
theorem x_c {d : D} {q : Sl → Prop} (h : q (.f d)) : wC d env q := h
theorem x_bin (h : w1 env fun r1 e1 => ∃ d1, r1 = .f d1 ∧ w2 e1 fun r2 e2 => ∃ d2, r2.cd = some d2 ∧ o d1 d2 fun d => Q (.f d) e2) : wBin o w1 w2 env Q := h
theorem x_binP {q : Sl → Prop} (h : v1 env fun r1 => ∃ d1, r1.cd = some d1 ∧ v2 env fun r2 => ∃ d2, r2.cd = some d2 ∧ o d1 d2 fun d => q (.f d)) : wBinP o v1 v2 env q := h
theorem x_exf {d : D} {p : D → Prop} (h : p d) : ∃ d1, Sl.f d = .f d1 ∧ p d1 := ⟨d, rfl, h⟩
theorem x_excd {d : D} {p : D → Prop} (h : p d) : ∃ d1, (Sl.f d).cd = some d1 ∧ p d1 := ⟨d, rfl, h⟩
theorem x_excV {o : O} {d : D} {p : D → Prop} (h : o.cd = some d) (h2 : p d) : ∃ d1, (Sl.vw o).cd = some d1 ∧ p d1 := ⟨d, h, h2⟩
theorem x_exb {k : Bool} {p : Bool → Prop} (h : p k) : ∃ b, Sl.f (.bl k) = .f (.bl b) ∧ p b := ⟨k, rfl, h⟩
theorem x_exdb {k : Bool} {p : Bool → Prop} (h : p k) : ∃ b, D.bl k = .bl b ∧ p b := ⟨k, rfl, h⟩
theorem x_tru (h : w env fun s e => ∃ d, s.cd = some d ∧ dTru d fun b => QT b e) : wTru w env QT := h
theorem x_tB (h : w env fun s e => ∃ b, s = .f (.bl b) ∧ QT b e) : wTB w env QT := h
theorem x_dtB {k : Bool} {q : Bool → Prop} (h : q k) : dTru (.bl k) q := h
theorem x_tand (h : t env fun k e => if k = true then u e QT else QT false e) : wAnd t u env QT := h
theorem x_tor (h : t env fun k e => if k = true then QT true e else u e QT) : wOr t u env QT := h
theorem x_tnot (h : t env fun k e => QT (!k) e) : wNot t env QT := h
theorem x_and2 (h : w1 env fun s e => ∃ b, s = .f (.bl b) ∧ if b = true then w2 e Q else Q (.f (.bl false)) e) : wAndV w1 w2 env Q := h
theorem x_or2 (h : w1 env fun s e => ∃ b, s = .f (.bl b) ∧ if b = true then Q (.f (.bl true)) e else w2 e Q) : wOrV w1 w2 env Q := h
theorem x_not2 (h : w1 env fun s e => ∃ b, s = .f (.bl b) ∧ Q (.f (.bl (!b))) e) : wNotV w1 env Q := h
theorem x_if (h : t env fun k e => if k = true then w1 e Q else w2 e Q) : wIf t w1 w2 env Q := h
theorem x_chain {o1 o2 : Op2} (h : w1 env fun r1 e1 => ∃ d1, r1 = .f d1 ∧ w2 e1 fun r2 e2 => ∃ d2, r2 = .f d2 ∧ o1 d1 d2 fun d => ∃ k, d = .bl k ∧ if k = true then w3 e2 fun r3 e3 => ∃ d3, r3.cd = some d3 ∧ o2 d2 d3 fun d => Q (.f d) e3 else Q (.f (.bl false)) e2) : wChain o1 o2 w1 w2 w3 env Q := h
theorem x_itT {p q : Prop} {inst : Decidable (true = true)} (h : p) : @ite _ (true = true) inst p q := by rw [if_pos rfl]; exact h
theorem x_itF {p q : Prop} {inst : Decidable (false = true)} (h : q) : @ite _ (false = true) inst p q := by rw [if_neg Bool.false_ne_true]; exact h
theorem x_itTe {k : Bool} {p q : Prop} {inst : Decidable (k = true)} (e : k = true) (h : p) : @ite _ (k = true) inst p q := by rw [if_pos e]; exact h
theorem x_itFe {k : Bool} {p q : Prop} {inst : Decidable (k = true)} (e : k = false) (h : q) : @ite _ (k = true) inst p q := by rw [if_neg (by rw [e]; exact Bool.false_ne_true)]; exact h
theorem x_ite {k : Bool} {p q : Prop} {inst : Decidable (k = true)} (h1 : k = true → p) (h2 : k = false → q) : @ite _ (k = true) inst p q := by
  cases k with
  | true => rw [if_pos rfl]; exact h1 rfl
  | false => rw [if_neg Bool.false_ne_true]; exact h2 rfl
/-- a test of which more is known: the word's two ways -/
theorem x_iteD {a : Prop} [Decidable a] {p q : Prop} {inst : Decidable (decide a = true)} (h1 : a → p) (h2 : ¬ a → q) : @ite _ (decide a = true) inst p q := by
  by_cases h : a
  · rw [if_pos (decide_eq_true h)]; exact h1 h
  · rw [if_neg (by simpa using h)]; exact h2 h
theorem x_iteN {k : Bool} {p q : Prop} {inst : Decidable ((!k) = true)} (h : if k = true then q else p) : @ite _ ((!k) = true) inst p q := by
  cases k with
  | true => rw [if_neg (show ¬ (!true) = true from Bool.false_ne_true)]; exact (if_pos rfl).mp h
  | false => rw [if_pos (show (!false) = true from rfl)]; exact (if_neg Bool.false_ne_true).mp h
/-! operations -/
theorem x_sub {a b : Int} (h : QD (.int (a - b))) : dII (fun _ _ => True) (fun i j => i - j) (.int a) (.int b) QD := ⟨True.intro, h⟩
theorem x_mul {a b : Int} (hc : CMulW a b) (h : QD (.int (a * b))) : dII CMulW (fun i j => i * j) (.int a) (.int b) QD := ⟨hc, h⟩
theorem x_mod {a b : Int} (hc : 0 < b) (h : QD (.int (a % b))) : dII (fun _ j => 0 < j) (fun i j => i % j) (.int a) (.int b) QD := ⟨hc, h⟩
theorem x_div {a b : Int} (hc : CDivW a b) (h : QD (.int (a / b))) : dII CDivW (fun i j => i / j) (.int a) (.int b) QD := ⟨hc, h⟩
theorem x_pow {a b : Int} (hc : CPowW a b) (h : QD (.int (a ^ b.toNat))) : dII CPowW (fun i j => i ^ j.toNat) (.int a) (.int b) QD := ⟨hc, h⟩
theorem x_neg {a : Int} (h : QD (.int (-a))) : uNeg (.int a) QD := h
theorem x_un {o1 : Op1} (h : w env fun s e => ∃ d, s.cd = some d ∧ o1 d fun d' => Q (.f d') e) : wUn o1 w env Q := h
theorem x_addI {a b : Int} (h : QD (.int (a + b))) : dAdd (.int a) (.int b) QD := h
theorem x_addS {a b : Str} (hz : a.length + b.length ≤ sizeLine) (h : QD (.str (a ++ b))) : dAdd (.str a) (.str b) QD := ⟨hz, h⟩
theorem x_addL {a b : List D} (hz : a.length + b.length ≤ sizeLine) (h : QD (.lst (a ++ b))) : dAdd (.lst a) (.lst b) QD := ⟨hz, h⟩
theorem x_addT {a b : List D} (hz : a.length + b.length ≤ sizeLine) (h : QD (.tup (a ++ b))) : dAdd (.tup a) (.tup b) QD := ⟨hz, h⟩
theorem x_lt {a b : Int} {g : List Nat → List Nat → Bool} (h : QD (.bl (decide (a < b)))) : dCmp (fun i j => decide (i < j)) g (.int a) (.int b) QD := h
theorem x_le {a b : Int} {g : List Nat → List Nat → Bool} (h : QD (.bl (decide (a ≤ b)))) : dCmp (fun i j => decide (i ≤ j)) g (.int a) (.int b) QD := h
theorem x_gt {a b : Int} {g : List Nat → List Nat → Bool} (h : QD (.bl (decide (b < a)))) : dCmp (fun i j => decide (j < i)) g (.int a) (.int b) QD := h
theorem x_ge {a b : Int} {g : List Nat → List Nat → Bool} (h : QD (.bl (decide (b ≤ a)))) : dCmp (fun i j => decide (j ≤ i)) g (.int a) (.int b) QD := h
theorem x_eqI {a b : Int} (h : QD (.bl (decide (a = b)))) : dEq false (.int a) (.int b) QD := ⟨rfl, rfl, by rw [if_neg Bool.false_ne_true]; exact (show PyData.eqv (.int a) (.int b) = decide (a = b) by simp [PyData.eqv]; rfl) ▸ h⟩
theorem x_isT {neg : Bool} (h : QD (.bl (!neg))) : dIsN neg .non .non QD := ⟨rfl, h⟩
theorem x_isI {neg : Bool} {a : Int} (h : QD (.bl neg)) : dIsN neg (.int a) .non QD := ⟨rfl, h⟩
theorem x_ixL {ds : List D} {k : Int} {d : D} (ha : atI ds k = some d) (h : QD d) : dIx (.lst ds) (.int k) QD := ⟨d, ha, h⟩
theorem x_ixT {ds : List D} {k : Int} {d : D} (ha : atI ds k = some d) (h : QD d) : dIx (.tup ds) (.int k) QD := ⟨d, ha, h⟩
theorem atI_at {α : Type} {ds : List α} {k : Int} (h0 : 0 ≤ k) (h1 : k < ds.length) : ∃ d, atI ds k = some d ∧ ds[k.toNat]? = some d := by
  have hk : k.toNat < ds.length := by omega
  have h := L2.atI_nat (xs := ds) (List.getElem?_eq_getElem hk)
  rw [Int.toNat_of_nonneg h0] at h
  exact ⟨_, h, List.getElem?_eq_getElem hk⟩
theorem x_ixM {ds : List D} {k : Int} (h0 : 0 ≤ k) (h1 : k < ds.length) (h : ∀ d ∈ ds, QD d) : dIx (.lst ds) (.int k) QD := by
  obtain ⟨d, h2, h3⟩ := atI_at h0 h1
  exact ⟨d, h2, h d (List.mem_of_getElem? h3)⟩
theorem x_ixS {z : Str} {k : Int} {c : Nat} (hz : z.length ≤ sizeLine) (h0 : atI z.cps.toList k = some c) (h : QD (.str ⟨#[c]⟩)) : dIx (.str z) (.int k) QD := ⟨hz, c, h0, h⟩
/-! arguments, displays, calls -/
variable {wd wr : WAD} {QA : List D → Env → Prop}
theorem x_adN (h : QA [] env) : adNil env QA := h
theorem x_adC (h : w env fun r e => ∃ d, r = .f d ∧ wr e fun ds e2 => QA (d :: ds) e2) : adCons w wr env QA := h
theorem x_tup (h : wd env fun ds e => ds.length ≤ sizeLine ∧ Q (.f (.tup ds)) e) : wTupD wd env Q := h
theorem x_lst (h : wd env fun ds e => ds.length ≤ sizeLine ∧ Q (.f (.lst ds)) e) : wLstD wd env Q := h
theorem x_lstO (h : wd env fun ds e => ds.length ≤ sizeLine ∧ Q (.own (.lst ds)) e) : wLstOD wd env Q := h
theorem x_cb {o : OpC} (h : wd env fun ds e => o ds fun d => Q (.f d) e) : wCBD o wd env Q := h
theorem x_cb1 {o : OpC} {s : Sl} {d : D} (h1 : env[i]? = some (some s)) (h2 : s.cd = some d) (h : o [d] fun d => Q (.f d) env) : wCB1 o i env Q := ⟨s, d, h1, h2, h⟩
theorem x_callF {W : WFn} (h : wd env fun ds e => W ds fun r => Q r e) : wCallF W wd env Q := h
theorem x_callU {W : WUn} {s : Sl} (h0 : env[i]? = some (some s)) (h : wd env fun ds e => ∃ o, e[i]? = some (some (.own o)) ∧ W o ds fun r o' => Q r (e.set i (some (.own o')))) : wCallU i W wd env Q := ⟨⟨s, h0⟩, h⟩
theorem x_exO {p : O → Prop} {o : O} (h : env[i]? = some (some (.own o))) (h2 : p o) : ∃ o, env[i]? = some (some (.own o)) ∧ p o := ⟨o, h, h2⟩
theorem x_exl {ds : List D} {p : List D → Prop} (h : p ds) : ∃ d1, Sl.f (.lst ds) = .f (.lst d1) ∧ p d1 := ⟨ds, rfl, h⟩
theorem x_ext {ds : List D} {p : List D → Prop} (h : p ds) : ∃ d1, Sl.f (.tup ds) = .f (.tup d1) ∧ p d1 := ⟨ds, rfl, h⟩
theorem x_exs {a : Str} {p : Str → Prop} (h : p a) : ∃ d1, Sl.f (.str a) = .f (.str d1) ∧ p d1 := ⟨a, rfl, h⟩
theorem x_exi {a : Int} {p : Int → Prop} (h : p a) : ∃ d1, Sl.f (.int a) = .f (.int d1) ∧ p d1 := ⟨a, rfl, h⟩
theorem x_sl {lo hi : WO} (h : w env fun r e => ∃ d, r = .f d ∧ lo e fun l e2 => hi e2 fun u e3 => dSl d l u fun d => Q (.f d) e3) : wSl w lo hi env Q := h
theorem x_slN {q : Option Int → Env → Prop} (h : q none env) : woN env q := h
theorem x_slS {q : Option Int → Env → Prop} (h : w env fun r e => ∃ i, r = .f (.int i) ∧ q (some i) e) : woS w env q := h
theorem x_frz (h : w env fun r e => ∃ o d, r = .own o ∧ o.cd = some d ∧ Q (.f d) e) : wFrz w env Q := h
theorem x_frL {ds : List D} {p : D → Prop} (h : p (.lst ds)) : ∃ o d, Sl.own (.lst ds) = .own o ∧ o.cd = some d ∧ p d := ⟨_, _, rfl, rfl, h⟩
theorem x_setL {d : D} {ds : List D} {wi : WE} {q : Env → Prop} (h0 : env[i]? = some (some (.own (.lst ds)))) (h : wi env fun r e => ∃ k j ds, r = .f (.int k) ∧ e[i]? = some (some (.own (.lst ds))) ∧ ixN ds.length k = some j ∧ q (e.set i (some (.own (.lst (ds.set j d)))))) : gSetL i wi d env q := ⟨⟨ds, h0⟩, h⟩
theorem x_lc {wi : WI} {tg : Tgt} {vs : List Nat} (h : wi env fun ds e0 => ds.length ≤ 100000 ∧ ∃ J : Nat → List D → Env → Prop, J 0 [] e0 ∧
  (∀ i d acc e, ds[i]? = some d → J i acc e → ∃ xs, tg.get d = some xs ∧ t (setE (wipeE e vs) tg.js xs) fun b e2 => if b = true then w e2 fun r e3 => ∃ d', r = .f d' ∧ J (i + 1) (acc ++ [d']) e3 else J (i + 1) acc e2) ∧
  ∀ acc e, J ds.length acc e → Q (.own (.lst acc)) (wipeE e vs)) : wLc wi tg vs t w env Q := h
end
end Fx
namespace Fx
theorem mem1 {p : Nat → Prop} {x : PySem.Str} {a : Nat} (h : p a) : ∀ i ∈ [(x, a)].map (·.2), p i := fun i hi => by
  obtain rfl := List.mem_singleton.mp hi
  exact h
end Fx
namespace Fx
open PySem L2
section
variable {Q : D → Prop}
theorem x_lenL {ds : List D} (h : Q (.int ds.length)) : cLen [.lst ds] Q := h
theorem x_lenT {ds : List D} (h : Q (.int ds.length)) : cLen [.tup ds] Q := h
theorem x_lenS {z : Str} (hz : z.length ≤ sizeLine) (h : Q (.int z.length)) : cLen [.str z] Q := ⟨hz, h⟩
theorem x_max {a b : Int} (h : Q (.int (if b > a then b else a))) : cMax2 [.int a, .int b] Q := h
theorem x_min {a b : Int} (h : Q (.int (if b < a then b else a))) : cMin2 [.int a, .int b] Q := h
theorem x_all {bs : List Bool} (h : Q (.bl (bs.all id))) : cAll [.lst (bs.map D.bl)] Q := ⟨bs, rfl, h⟩
end
end Fx
namespace Fx
open PySem L2
theorem x_start {w : WS} {D : WEnds} {N : List Str} {as : List Sl} {e : Env} (h : startE N as = e) (q : w D e) : w D (startE N as) := by rw [h]; exact q
end Fx
namespace Fx
open PySem L2 Lk
def isInt : D → Bool
  | .int _ => true
  | .bl _ => true
  | _ => false
def isBl : D → Bool
  | .bl _ => true
  | _ => false
def isTup : D → Bool
  | .tup _ => true
  | _ => false
def isDic : D → Bool
  | .dic _ _ => true
  | _ => false
abbrev NoTy (d : D) : Prop := ∀ m, d ≠ .ty m
section
variable {d : D} {Q : D → Prop}
theorem kit_at {n : String} {b : Bool} {T : String} (e : tyN d = T) (nt : NoTy d) (h : kitB T n = some b) (q : Q (.bl b)) : cIsi [d, .ty n] Q := by
  refine ⟨b, ?_, q⟩
  unfold isiB
  split
  · exact absurd rfl (nt _)
  · rw [e]; exact h
theorem x_isInt (nt : NoTy d) (h : Q (.bl (isInt d))) : cIsi [d, .ty "int"] Q := by
  cases d <;> first | exact absurd rfl (nt _) | exact kit_at rfl nt (by simp only [tyN, isInt]; decide +kernel) h
theorem x_isBl (nt : NoTy d) (h : Q (.bl (isBl d))) : cIsi [d, .ty "bool"] Q := by
  cases d <;> first | exact absurd rfl (nt _) | exact kit_at rfl nt (by simp only [tyN, isBl]; decide +kernel) h
theorem x_isStr (nt : NoTy d) (h : Q (.bl (isStr d))) : cIsi [d, .ty "str"] Q := by
  cases d <;> first | exact absurd rfl (nt _) | exact kit_at rfl nt (by simp only [tyN, isStr]; decide +kernel) h
theorem x_isTup (nt : NoTy d) (h : Q (.bl (isTup d))) : cIsi [d, .ty "tuple"] Q := by
  cases d <;> first | exact absurd rfl (nt _) | exact kit_at rfl nt (by simp only [tyN, isTup]; decide +kernel) h
end
end Fx

namespace Fx
open PySem L2 Lk
def memB (ds : List D) (a : D) : Bool := (D.pyL ds).any fun z => PyData.eqv z a.py
def eqB (a b : D) : Bool := PyData.eqv a.py b.py
section
variable {Q : D → Prop}
theorem x_inT {a : D} {ds : List D} (h1 : okPy a = true) (h2 : okPy (.tup ds) = true) (h : Q (.bl (memB ds a))) : dIn false a (.tup ds) Q := ⟨h1, h2, h⟩
theorem x_inL {a : D} {ds : List D} (h1 : okPy a = true) (h2 : okPy (.lst ds) = true) (h : Q (.bl (memB ds a))) : dIn false a (.lst ds) Q := ⟨h1, h2, h⟩
theorem x_ninL {a : D} {ds : List D} (h1 : okPy a = true) (h2 : okPy (.lst ds) = true) (h : Q (.bl (!memB ds a))) : dIn true a (.lst ds) Q := ⟨h1, h2, h⟩
theorem x_eqD {a b : D} (h1 : okPy a = true) (h2 : okPy b = true) (h : Q (.bl (eqB a b))) : dEq false a b Q := ⟨h1, h2, h⟩
theorem x_neD {a b : D} (h1 : okPy a = true) (h2 : okPy b = true) (h : Q (.bl (!eqB a b))) : dEq true a b Q := ⟨h1, h2, h⟩
theorem x_neI {a b : Int} (h : Q (.bl (!decide (a = b)))) : dEq true (.int a) (.int b) Q := ⟨rfl, rfl, by
  rw [if_pos rfl]
  exact (show PyData.eqv (.int a) (.int b) = decide (a = b) by simp [PyData.eqv]; rfl) ▸ h⟩
def isNon : D → Bool
  | .non => true
  | _ => false
theorem x_isN {neg : Bool} {a : D} (h : Q (.bl (if isNon a = true then !neg else neg))) : dIsN neg a .non Q := by
  refine ⟨rfl, ?_⟩
  cases a <;> exact h
end
section
variable {w : WE} {env : Env} {Q : Sl → Env → Prop}
theorem x_allSg {lo hi : Str} (h : w env fun r e => ∃ a, r = .f (.str a) ∧ Q (.f (.bl (nmB lo hi a))) e) : wAllSg lo hi w env Q := h
theorem x_allStr (h : w env fun r e => ∃ ds, r = .f (.tup ds) ∧ (∀ d ∈ ds, ∀ m, d ≠ .ty m) ∧ Q (.f (.bl (ds.all isStr))) e) : wAllStr w env Q := h
theorem nine {ds : List D} (h : ds.length = 9) : ∃ a b c d e f g i j, ds = [a, b, c, d, e, f, g, i, j] := by
  match ds, h with
  | [a, b, c, d, e, f, g, i, j], _ => exact ⟨a, b, c, d, e, f, g, i, j, rfl⟩
end
end Fx
namespace Fx
open PySem PySem.Spec PyProof.Rows L2 Evl Lk
section
variable {X : Cx} {G : Gx} {w : WE} {c P : Addr} {iter : Expr} {x : Str} {px p pos gpos p1 p2 p3 p4 : Pos} {scope : Scope} {k : Nat}
theorem ge_allSgR {lo hi : Str} {j1 j2 : Nat} (TB : GxR.TabB X.base X.mg c P) (hr : Room k X.A) (hg : Gl X "all") (hm : X.mg "all" = none) (hcode : X.env.code = .ref c) (S : GxR.GenS X.env scope x) (hi' : GE X G iter w) (hs : ∀ v, genFold iter X.env v = pure v) (hP : P ∈ G.tabs)
    (hk : scope.kind = .function) (hl : scope.names.lookup x = some .local) (hd : (x == ("__debug__" : Str)) = false := by decide)
    (he : starEach [.GeneratorExp (.Compare (.Constant (.str lo) j1 p1) [.LtE, .LtE] [.Name x p2, .Constant (.str hi) j2 p3] p4) [⟨.Name x px, iter, [], 0⟩] scope gpos] X.env = (false, eval (.GeneratorExp (.Compare (.Constant (.str lo) j1 p1) [.LtE, .LtE] [.Name x p2, .Constant (.str hi) j2 p3] p4) [⟨.Name x px, iter, [], 0⟩] scope gpos) X.env) :: starEach [] X.env := by rfl) :
    GE X G (.Call (.Name "all" p) [.GeneratorExp (.Compare (.Constant (.str lo) j1 p1) [.LtE, .LtE] [.Name x p2, .Constant (.str hi) j2 p3] p4) [⟨.Name x px, iter, [], 0⟩] scope gpos] [] pos) (wAllSg lo hi w) :=
  ge_allSg (pe_allG TB hr hg hm hcode S hi'.pe hs he) hi'.mono hP hk hl hd
theorem ge_allStrR (TB : GxR.TabB X.base X.mg c P) (hr : Room k X.A) (hg : Gl X "all") (hm : X.mg "all" = none) (hcode : X.env.code = .ref c) (S : GxR.GenS X.env scope x) (hi' : GE X G iter w) (hs : ∀ v, genFold iter X.env v = pure v) (hP : P ∈ G.tabs)
    (hk : scope.kind = .function) (hl : scope.names.lookup x = some .local) (g1 : scope.names.lookup ("isinstance" : Str) = some .globalImplicit) (m1 : X.mg "isinstance" = none) (g2 : scope.names.lookup ("str" : Str) = some .globalImplicit) (m2 : X.mg "str" = none) (hK : X.K = G.K := by rfl) (hd : (x == ("__debug__" : Str)) = false := by decide)
    (he : starEach [.GeneratorExp (.Call (.Name "isinstance" p1) [.Name x p2, .Name "str" p3] [] p4) [⟨.Name x px, iter, [], 0⟩] scope gpos] X.env = (false, eval (.GeneratorExp (.Call (.Name "isinstance" p1) [.Name x p2, .Name "str" p3] [] p4) [⟨.Name x px, iter, [], 0⟩] scope gpos) X.env) :: starEach [] X.env := by rfl) :
    GE X G (.Call (.Name "all" p) [.GeneratorExp (.Call (.Name "isinstance" p1) [.Name x p2, .Name "str" p3] [] p4) [⟨.Name x px, iter, [], 0⟩] scope gpos] [] pos) (wAllStr w) :=
  ge_allStr (pe_allG TB hr hg hm hcode S hi'.pe hs he) hi'.mono hP hk hl g1 m1 g2 m2 hK hd
end
end Fx

namespace Fx
open PySem PySem.Spec PyProof.Rows L2 Evl Lk
section
variable {X : Cx} {G : Gx}
theorem ipx_of {op : Operator} {g : Int → Int → Int} (h : PIp X op (ipI g)) : IpX X G op (dII (fun _ _ => True) g) := by
  refine ⟨fun pins s σ H x y v u Q I rx ry ⟨T, d1, d2, t, c1, c2, q⟩ => ?_, fun a b Q Q' i q => ?_⟩
  · cases d1 with
    | int i =>
      cases d2 with
      | int j =>
        cases c1
        cases c2
        exact h pins s σ H _ _ v u Q I rx ry ⟨i, j, rfl, rfl, q.2 _ H (Ex.refl H) (.int _)⟩
      | _ => exact (show False from q).elim
    | _ => exact (show False from q).elim
  · cases a <;> cases b <;> first | exact ⟨q.1, i _ q.2⟩ | exact q
theorem ipx_add : IpX X G .Add (dII (fun _ _ => True) fun i j => i + j) := ipx_of ip_add
theorem gs_augE {i : Nat} {x : Str} {e : Expr} {we : WE} {op : Operator} {o2 : Op2} {pos pos' : Pos} (hN : X.N.Nodup) (hi : X.N[i]? = some x) (hx : Loc X.env.scope x) (he : GE X G e we) (ho : IpX X G op o2) (hp : G.prot i = false := by rfl)
    (hf : X.fn x = true ∨ X.env.scope.names.lookup x = some .local := by first | exact .inl rfl | exact .inr rfl) : GS X G (.AugAssign (.Name x pos') op e pos) (wAug i we o2) :=
  gs_aug (op := op) (ps_aug hN hi hx he.pe ho.ok hf) he.mono ho.mono hp
end
section
variable {env : Env} {n b c : Env → Prop} {r : Sl → Env → Prop} {i : Nat} {we wi : WE} {o2 : Op2} {QD : D → Prop}
theorem x_ipA {a b : Int} (h : QD (.int (a + b))) : dII (fun _ _ => True) (fun i j => i + j) (.int a) (.int b) QD := ⟨True.intro, h⟩
theorem x_aug {d : D} (h0 : env[i]? = some (some (.f d))) (h : we env fun r e => ∃ d2, r = .f d2 ∧ o2 d d2 fun d3 => i < e.length ∧ n (e.set i (some (.f d3)))) : wAug i we o2 ⟨n, r, b, c⟩ env := ⟨d, h0, h⟩
theorem x_setL1 {e : Env} {ds : List D} {k : Int} {j : Nat} {d : D} {q : Env → Prop} (h0 : e[i]? = some (some (.own (.lst ds)))) (hj : ixN ds.length k = some j) (h : q (e.set i (some (.own (.lst (ds.set j d)))))) : ∃ k' j ds, Sl.f (.int k) = .f (.int k') ∧ e[i]? = some (some (.own (.lst ds))) ∧ ixN ds.length k' = some j ∧ q (e.set i (some (.own (.lst (ds.set j d))))) := ⟨k, j, ds, rfl, h0, hj, h⟩
end
theorem mul_ok {i j : Int} (hi : i.natAbs < 2 ^ 250) (hj : j.natAbs < 2 ^ 250) : CMulW i j := by
  have a := PySem.Flt.log2_lt_of (by decide) hi
  have b := PySem.Flt.log2_lt_of (by decide) hj
  show i.natAbs.log2 + j.natAbs.log2 < 1000000
  omega
theorem div_ok {i j : Int} (h0 : 0 < j) (hj : j.natAbs < 2 ^ 250) : CDivW i j := ⟨h0, by
  have b := PySem.Flt.log2_lt_of (by decide) hj
  omega⟩
/-! ### the urn of a law -/
def Un (o : O) (n : Nat) : Prop := ∃ a b c : Int, o = .lst [.int a, .int b, .int c] ∧ b.natAbs < 2 ^ 200 ∧ 0 ≤ c ∧ c ≤ n
theorem Un.mono {o : O} {n m : Nat} (h : Un o n) (e : n ≤ m) : Un o m := let ⟨a, b, c, h1, h2, h3, h4⟩ := h; ⟨a, b, c, h1, h2, h3, by omega⟩
def wLot : WUn := fun o ds Q => ∃ n m, ds = [.int m] ∧ Un o n ∧ n < 100000 ∧ 0 < m ∧ m ≤ 1000000000 ∧ ∀ k o', 0 ≤ k → k < m → Un o' (n + 1) → Q (.f (.int k)) o'
theorem mono__law_lot : MonoU2 wLot := fun o ds Q Q' i ⟨n, m, h1, h2, h3, h4, h5, q⟩ => ⟨n, m, h1, h2, h3, h4, h5, fun k o' a b c => i _ _ (q k o' a b c)⟩
theorem x_lot {o : O} {n : Nat} {m : Int} {Q : Sl → O → Prop} (u : Un o n) (hn : n < 100000) (h0 : 0 < m) (h1 : m ≤ 1000000000) (q : ∀ k o', 0 ≤ k → k < m → Un o' (n + 1) → Q (.f (.int k)) o') : wLot o [.int m] Q := ⟨n, m, rfl, u, hn, h0, h1, q⟩
def wUrn : WFn := fun ds Q => ∃ c k : Int, ds = [.int c, .int k] ∧ 0 ≤ k ∧ k ≤ 63 ∧ ∀ o, Un o 0 → Q (.own o)
theorem mono__law_urn : MonoF wUrn := fun ds Q Q' i ⟨c, k, h1, h2, h3, q⟩ => ⟨c, k, h1, h2, h3, fun o u => i _ (q o u)⟩
end Fx
namespace Fx
open PySem PySem.Spec PyProof.Rows L2 Evl Lk
section
variable {env : Env} {Q : Sl → Env → Prop} {w w1 w2 : WE} {wd : WAD} {wa : WA} {QI : List D → Env → Prop} {QA : List Ag → Env → Prop} {n b c : Env → Prop} {r : Sl → Env → Prop}
theorem x_join (h : w1 env fun r1 e1 => ∃ a, r1 = .f (.str a) ∧ w2 e1 fun r2 e2 => ∃ ds ys, (r2.cd = some (.lst ds) ∨ r2.cd = some (.tup ds)) ∧ ds = ys.map D.str ∧ (ys.map (·.length)).sum + ys.length * a.length ≤ 16777216 ∧ Q (.f (.str (Txt.join a ys))) e2) : wJoin w1 w2 env Q := h
theorem x_waD (h : wd env fun ds e => QA (ds.map agD) e) : waD wd env QA := h
theorem x_r1 (h : wa env fun as e => ∃ j : Int, as = [.v (.f (.int j))] ∧ -(2 ^ 62) ≤ j ∧ j < 2 ^ 62 ∧ QI ((List.range j.toNat).map fun k : Nat => .int (0 + (k : Int))) e) : wiR1 wa env QI := h
theorem x_r2 (h : wa env fun as e => ∃ i j : Int, as = [.v (.f (.int i)), .v (.f (.int j))] ∧ (-(2 ^ 62) ≤ i ∧ i < 2 ^ 62 ∧ -(2 ^ 62) ≤ j ∧ j < 2 ^ 62) ∧ QI ((List.range (j - i).toNat).map fun k : Nat => .int (i + (k : Int))) e) : wiR2 wa env QI := h
theorem x_r1e {k : Int} {p : Int → Prop} (h0 : -(2 ^ 62) ≤ k) (h1 : k < 2 ^ 62) (h : p k) : ∃ j : Int, List.map agD [.int k] = [.v (.f (.int j))] ∧ -(2 ^ 62) ≤ j ∧ j < 2 ^ 62 ∧ p j := ⟨k, rfl, h0, h1, h⟩
theorem x_iL (h : w env fun r e => ∃ ds, r = .f (.lst ds) ∧ QI ds e) : wiL w env QI := h
theorem x_iT (h : w env fun r e => ∃ ds, r = .f (.tup ds) ∧ QI ds e) : wiT w env QI := h
theorem x_iS (h : w env fun r e => ∃ x, r = .f (.str x) ∧ QI (signs x) e) : wiS w env QI := h
theorem x_yes {QT : Bool → Env → Prop} (h : QT true env) : wYes env QT := h
theorem x_for {wi : WI} {g : WG} {ws : WS} (h : wi env fun ds e0 => ∃ J : Nat → Env → Prop, J 0 e0 ∧ (∀ i d e, ds[i]? = some d → J i e → g d e fun e' => ws ⟨J (i + 1), r, n, J (i + 1)⟩ e') ∧ ∀ e, J ds.length e → n e) : wFor wi g ws ⟨n, r, b, c⟩ env := h
theorem rng_at {k i : Nat} {d : D} (h : ((List.range k).map fun j : Nat => D.int (0 + (j : Int)))[i]? = some d) : i < k ∧ d = .int (i : Int) := by
  rw [List.getElem?_map] at h
  have hi : i < k := by
    rcases Nat.lt_or_ge i k with z | z
    · exact z
    · rw [List.getElem?_eq_none (by rw [List.length_range]; exact z)] at h
      cases h
  rw [List.getElem?_range hi] at h
  refine ⟨hi, ?_⟩
  have h : some (D.int (0 + (i : Int))) = some d := h
  rw [Int.zero_add] at h
  exact (Option.some.inj h).symm
end
end Fx
namespace Fx
open PySem PySem.Spec PyProof.Rows L2 Evl Lk
end Fx
namespace Fx
open PySem PySem.Spec PyProof.Rows L2 Evl Lk
/-! a cut behind a statement -/
def wCut (w1 w2 : WS) : WS := fun D env => ∃ P : Env → Prop, w1 ⟨P, D.rt, D.bk, D.ct⟩ env ∧ ∀ e, P e → w2 D e
theorem gss_cut {X : Cx} {G : Gx} {st : Stmt} {rest : List Stmt} {w1 w2 : WS} (h : GS X G st w1) (h2 : GSs X G rest w2) : GSs X G (st :: rest) (wCut w1 w2) := by
  have c := gss_cons h h2
  refine ⟨pss_imp c.pss fun D σ H ⟨T, env, F, r, P, q1, q2⟩ => ⟨T, env, F, r, h.mono _ _ _ ?_ q1⟩, fun D D' env l ⟨P, q1, q2⟩ => ⟨P, h.mono _ _ _ ?_ q1, fun e p => h2.mono _ _ _ l (q2 e p)⟩⟩
  · exact ⟨fun e p => q2 e p, fun _ _ q => q, fun _ q => q, fun _ q => q⟩
  · exact ⟨fun e p => p, l.rt, l.bk, l.ct⟩
section
variable {env : Env} {n b c : Env → Prop} {r : Sl → Env → Prop} {s1 s2 : WS}
theorem x_cut (P : Env → Prop) (h : s1 ⟨P, r, b, c⟩ env) (h2 : ∀ e, P e → s2 ⟨n, r, b, c⟩ e) : wCut s1 s2 ⟨n, r, b, c⟩ env := ⟨P, h, h2⟩
end
/-! texts -/
theorem strOk_list {x : Str} (h : ∀ c ∈ x.cps.toList, c < 0x110000) : PyData.strOk x = true := by
  unfold PyData.strOk
  rw [Array.all_eq_true']
  exact fun c hc => decide_eq_true (h c (by simpa using hc))
theorem okPy_str {x : Str} (h : PyData.strOk x = true) : okPy (.str x) = true := by
  unfold okPy SeqAt.shaped
  rw [Bool.and_eq_true]
  exact ⟨by show PyData.canLay0 (.str x) = true; unfold PyData.canLay0; exact h, by show decide (PyData.depth (.str x) ≤ 64) = true; unfold PyData.depth; rfl⟩
end Fx
namespace Fx
open PySem PySem.Spec PyProof.Rows L2 Evl Lk
section
variable {Q : D → Prop} {env : Env} {QE : Sl → Env → Prop} {w : WE}
theorem x_slT {ds ds' : List D} {lo hi : Option Int} (e : cutD ds lo hi = ds') (h : Q (.tup ds')) : dSl (.tup ds) lo hi Q := by subst e; exact h
end
end Fx

namespace Fx
open PySem PySem.Spec PyProof.Rows L2 Evl Lk
/-! ### the law as the top calls it -/
def wLaw : WFn := fun ds Q => ∃ ns : List Int, ds = [.lst (ns.map D.int)] ∧ ns.length ≤ 63 ∧ Q (.f (.bl true))
theorem fz_ints {K : PySem.W.Frag} {H : Hp} : ∀ ns : List Int, FzL K H (ns.map V.int) (ns.map D.int)
  | [] => .nil
  | n :: ns => .cons (.int n) (fz_ints ns)
theorem law_at {l : PySem.W.OpenLaw} {w : World} {K : PySem.W.Frag} {k : Nat} {x : Str} {mg : Str → Option Value} {h : Heap} {fa : Addr} {fd : FuncData} {cs : List (Addr × Addr)}
    (hT : ∀ p ∈ cs, h.get? p.2 = some { cls := .none, data := .fields #[] }) (nT : ∀ p ∈ cs, K.lookup p.2 = none) (C : ∀ p ∈ cs, PySem.W.CodeHd h p.1 p.2) (hb : ∀ (s : Shared) (u : Value), BindsTo s fd ⟨[u], []⟩ [(x, u)])
    (F : ∀ base : Heap, K.In base → base.Ns mainGlobals mg → (∀ p ∈ cs, GxR.TabB base mg p.1 p.2) → FnOk l.prog w K mg base CX0 k fa fd [x] (spW K (cs.map (·.2)) (liftF wLaw))) : LawAt l w K k 63 x mg h fa := by
  refine ⟨fd, cs, _, hT, nT, C, hb, fun H a ns hn _ hH hS => ?_, F⟩
  have e : Ex H (hid (fun _ => False) H) := fun b o q => hid_of q id
  refine ⟨fun _ => False, [.f (.lst (ns.map D.int))], fun _ => [], ⟨fun _ z => z.elim, fun p hp => ?_, fun i s hs => ?_, fun i j _ ⟨o, ho⟩ => ?_, .refl fun _ z => z.elim, fun b ⟨i, ⟨o, ho⟩, _⟩ => ?_, fun _ z => z.elim, fun _ _ => rfl, rfl, ex_none⟩, [.lst (ns.map D.int)], rfl, ns, rfl, hn, fun v T' H' F' fr r' _ zs => ?_⟩
  · obtain ⟨q, hq, rfl⟩ := List.mem_map.mp hp
    exact ⟨hH q hq, id⟩
  · cases i with
    | zero =>
      cases hs
      exact ⟨.ref a, rfl, .lst (ex_l e hS.l) (fz_ints ns), rfl⟩
    | succ i => cases hs
  · cases i with
    | zero => cases ho
    | succ i => cases ho
  · cases i with
    | zero => cases ho
    | succ i => cases ho
  · have z := zs.rel.1
    cases z
    exact ⟨rfl, fun p hp => (r'.tab p.2 (List.mem_map.mpr ⟨p, hp, rfl⟩)).1⟩
end Fx

namespace L2
open PySem PySem.Spec PyProof.Rows
/-! ### except x as n, the exception's object tracked within the suite and behind it -/
section
variable {X : Cx} {pins : List (Addr × Obj)} {σ : St} {H : Hp} {s : Shared} {a : Addr} {o : HO}
end
section
variable {X : Cx} {x n : Str} {c : Value} {i : Nat} {body suite : List Stmt} {b₀ : Stmt} {np pos pos' : Pos} {tb : WX → TS} {ts : TS} {Wout : WX}
end
end L2

namespace Fx
open PySem PySem.Spec PyProof.Rows L2 Evl Lk

/-! ### defs that may raise, called -/
section
variable {P : Program} {w : World} {K : PySem.W.Frag} {mg : Str → Option Value} {base : Heap} {x : Str} {st : Stmt} {ps : List Str} {k : Nat} {sp : Sp} {f : Addr} {fd : FuncData} {c : Addr}
end

section
variable {X : Cx} {G : Gx} {e : Expr} {es : List Expr} {wa : WA} {x : Str} {k j : Nat} {W : WDX} {tabs : List Addr} {p pos : Pos}
end

/-! ### raise -/
section
variable {X : Cx} {G : Gx} {x : Str} {C : Addr} {p p2 pos pos2 : Pos} {m : Str} {j : Nat}
end

/-! ### try -/
section
variable {G : Gx} {xw : Xv → Env → Prop} {h0 : Hp} {T : Addr → Prop} {H : Hp} {σ : L2.St} {env : Env} {F : Nat → List Addr}
end
section
variable {X : Cx} {G : Gx} {x n : Str} {c : Value} {i : Nat} {body suite : List Stmt} {b₀ : Stmt} {np pos pos' : Pos} {tb : (Xv → Env → Prop) → WS} {ts : WS}
end
end Fx

namespace PySem.W
open PySem
section
variable {prog : Program} {w : World} {A : Around} {E : Value → Shared → Prop} {s : Shared} {K : Frag} {x D : Addr} {ox : Obj} {od : Option Obj}
end
end PySem.W
namespace Fx
open PySem PySem.Spec PyProof.Rows L2 Evl Lk
/-! ### exceptions as values -/
section
variable {X : Cx} {G : Gx} {pins : List (Addr × Obj)} {σ : L2.St} {H : Hp} {s : Shared} {a C : Addr} {d : Option Addr} {row : Option Int}
/-! isinstance -/
/-! e.row -/
end
end Fx

/-! an own exception class whose __init__(self, row) says super().__init__(a text of row); self.row = row -/
namespace PySem
namespace RowX
open PySem.W PySem.Calls PyProof.Rows PySem.HandSPX
section
variable {prog : Program} {w : World} {A : Around} {E : Value → Shared → Prop} {h : Heap} {g : Array GenState} {d : Drawn} {t : Nat} {os : OsState}
variable {nm q : Str} {C N : Addr} {bs bm : List Value} {hdct : Bool} {sn : List Str} {sub : List Value} {ab : Bool} {col : Option Bool} {dd : Option Addr} {k0 k1 k2 k3 k5 : Option Value}
end
section
variable {prog : Program} {w : World} {A : Around} {E : Value → Shared → Prop} {R : Result → Shared → Prop} {s : Shared} {K : Frag} {mg mb : Str → Option Value} {x : Str} {C : Addr}
end
end RowX
end PySem
namespace L2
open PySem PySem.Spec PyProof.Rows
section
variable {X : Cx} {C : Addr} {x : Str}
end
end L2
namespace Fx
open PySem PySem.Spec PyProof.Rows L2 Evl Lk
section
variable {X : Cx} {G : Gx} {x : Str} {C : Addr} {a : Expr} {w : WE} {p pos pos2 : Pos} {k : Nat}
end
end Fx

namespace Fx
open PySem PySem.Spec PyProof.Rows L2 Evl Lk

/-! ### text.split(sep) -/
theorem fzl_strs {K : PySem.W.Frag} {H : Hp} : ∀ (ys : List Str), FzL K H (ys.map V.str) (ys.map D.str)
  | [] => .nil
  | y :: ys => .cons (.str y) (fzl_strs ys)
section
variable {X : Cx} {G : Gx} {e : Expr} {w w1 w2 : WE}
end

/-! ### xs[lo:hi:k] of a list -/
section
variable {X : Cx} {G : Gx} {e : Expr} {w : WE} {lo hi : Option Expr}
end

/-! ### f-strings -/
section
variable {X : Cx} {G : Gx} {e : Expr} {w : WE}
end

/-! ### steps of walks -/
section
variable {w w1 w2 : WE} {wl wh : WO} {env : Env} {Q : Sl → Env → Prop} {ws : List WE} {acc : Str} {QJ : Str → Env → Prop}
end
end Fx

namespace Fx
open PySem PySem.Spec PyProof.Rows L2 Evl Lk

/-! ### another wish -/
section
variable {X : Cx} {G : Gx} {xw : Xv → Env → Prop} {T : Addr → Prop} {H : Hp} {σ : L2.St} {env : Env} {F : Nat → List Addr} {st : List Stmt} {w : WS}
end

/-! ### defs of values that may raise -/
section
variable {xw : Xv → Env → Prop} {W : WFnX} {wd : WAD}
end
section
variable {X : Cx} {G : Gx} {e : Expr} {es : List Expr} {wd : WAD} {x : Str} {k j : Nat} {tabs : List Addr} {p pos : Pos} {W : WFnX}
end
section
variable {P : Program} {w : World} {K : PySem.W.Frag} {mg : Str → Option Value} {base : Heap} {x : Str} {st : Stmt} {N ps : List Str} {k : Nat} {tabs : List Addr}
end

/-! ### a, b = a list -/
section
variable {X : Cx} {G : Gx} {pos : Pos}
end

/-! ### steps of walks -/
section
variable {w : WE} {wd : WAD} {env : Env} {Q : Sl → Env → Prop} {W : WFnX} {xw : Xv → Env → Prop} {ds : List D} {q : Env → Prop} {D0 : WEnds}
end
end Fx

namespace Fx
open PySem PySem.Spec PyProof.Rows L2 Evl Lk
/-! ### more steps of walks -/
section
variable {wa : WA} {env : Env} {QI : List D → Env → Prop} {ds es : List D} {p : List D → List D → Prop}
end
theorem x_isN0 {neg : Bool} {a : D} {Q : D → Prop} (h : isNon a = false) (k : Q (.bl neg)) : dIsN neg a .non Q := x_isN (by rw [h]; exact k)
theorem take_snoc {α : Type} {l : List α} {i : Nat} {x : α} (h : l[i]? = some x) : l.take (i + 1) = l.take i ++ [x] := by
  rw [List.take_succ, h]
  rfl
end Fx

namespace Fx
open PySem PySem.Spec PyProof.Rows L2 Evl Lk
/-! ### what the top has written of a class whose exceptions have a row -/
end Fx

/-! len(set(xs)), xs a list of texts, as many as there are (HandS.Strs has it for one) -/
namespace Fx.SS
open PySem PySem.Spec PyProof.Rows
/-- what was met so far, each once -/
def met {κ : Type} [BEq κ] (key : Nat → κ) : Nat → List κ
  | 0 => []
  | i + 1 => if (met key i).any (· == key i) then met key i else met key i ++ [key i]
theorem met_len {κ : Type} [BEq κ] (key : Nat → κ) : ∀ i, (met key i).length ≤ i
  | 0 => Nat.le_refl _
  | i + 1 => by
    have := met_len key i
    unfold met
    split
    · omega
    · rw [List.length_append, List.length_singleton]; omega
section
variable {prog : Program} {w : World} {A : Around} {R : Result → Shared → Prop} {I : Addr} {fp wr : List Addr} {G : Array GenState → Array GenState → Prop} {n : Nat} {P : Nat → Value → Prop} {St : Nat → Shared → Prop}
end
section
variable {prog : Program} {w : World} {A : Around} {E : Value → Shared → Prop} {s : Shared}
end
end Fx.SS

namespace Fx
open PySem PySem.Spec PyProof.Rows L2 Evl Lk
/-! ### x[a:c] = a list, x a slot that owns a list -/
section
variable {X : Cx} {G : Gx}
end
end Fx

namespace Fx
open PySem PySem.Spec PyProof.Rows L2 Evl Lk
/-! ### {k: v, ..}: an owned dict of values -/
def dK : Key → D
  | .inl i => .int i
  | .inr x => .str x
section
variable {X : Cx} {G : Gx} {pos : Pos}
theorem owl_fs {K : PySem.W.Frag} {T : Addr → Prop} {H : Hp} : ∀ {ds : List D} {vs : List V}, FzL K (hid T H) vs ds → OwL K T H (ds.map O.f) vs []
  | [], _, h => by cases h; exact .nil
  | d :: ds, _, h => by
    cases h with
    | cons a b => exact .cons (f1 := []) (.f a) (owl_fs b) (by simp)
/-- what no slot has keeps so -/
theorem att_far {σ : L2.St} {T0 T1 : Addr → Prop} {H0 H1 : Hp} {env e : Env} {F F1 : Nat → List Addr} {p : Addr} (a : Att G σ T0 H0 env F T1 H1 e F1) (hp : H0 p ≠ none) (n : ∀ k, IsS env k → p ∉ F k) : ∀ k, IsS e k → p ∉ F1 k := by
  rintro k ⟨s, hs⟩ hF
  cases s with
  | f d =>
    obtain ⟨v, _, z⟩ := a.re.slot k _ hs
    have z : Fz G.K (hid T1 H1) v d ∧ F1 k = [] := z
    rw [z.2] at hF
    cases hF
  | own o =>
    rcases a.own p ⟨k, ⟨o, hs⟩, hF⟩ with ⟨i, ⟨o', hi⟩, hF'⟩ | h
    · exact n i ⟨_, hi⟩ hF'
    · exact hp h
  | vw o =>
    obtain ⟨h1, h2⟩ := a.vw k o hs
    rw [h2] at hF
    exact n k ⟨_, h1⟩ hF
end
/-! ### d.get(k) of a dict value -/
def getD (ks : List Key) (ds : List D) (k : Key) : D := (((ks.zip ds).find? fun kv => decide (kv.1 = k)).map (·.2)).getD .non
def wGet (w1 w2 : WE) : WE := fun env Q => w1 env fun r e => ∃ ks ds, r = .f (.dic ks ds) ∧ w2 e fun r2 e2 => ∃ k : Key, r2 = .f (dK k) ∧ Q (.f (getD ks ds k)) e2
section
variable {X : Cx} {G : Gx} {o e : Expr} {w1 w2 : WE} {apos cpos : Pos}
theorem fz_dK {K : PySem.W.Frag} {H : Hp} {v : V} {k : Key} (h : Fz K H v (dK k)) : v = kV k := by
  cases k <;> cases h <;> rfl
theorem fz_get {K : PySem.W.Frag} {H : Hp} {k : Key} : ∀ {ks : List Key} {vs : List V} {ds : List D}, FzL K H vs ds → Fz K H ((valV (ks.zip vs) k).getD .non) (getD ks ds k)
  | [], _, _, _ => .non
  | _ :: _, _, _, .nil => .non
  | k0 :: ks, _, _, .cons (v := v) (vs := vs) (d := d) (ds := ds) a b => by
    by_cases h : k0 = k
    · have e1 : valV ((k0 :: ks).zip (v :: vs)) k = some v := valV_pos h
      have e2 : getD (k0 :: ks) (d :: ds) k = d := by simp [getD, List.find?_cons, h]
      rw [e1, e2]
      exact a
    · have e1 : valV ((k0 :: ks).zip (v :: vs)) k = valV (ks.zip vs) k := valV_neg h
      have e2 : getD (k0 :: ks) (d :: ds) k = getD ks ds k := by simp [getD, List.find?_cons, h]
      rw [e1, e2]
      exact fz_get b
theorem ge_get (hu : X.A.units + 65 < cLine) (ho : GE X G o w1) (he : GE X G e w2) (m : M1 X o "get" apos e cpos) : GE X G (.Call (.Attribute o "get" apos) [e] [] cpos) (wGet w1 w2) := by
  refine ⟨pe_imp (pe_dget1 (by omega) ho.pe he.pe m) fun σ H Q ⟨T, env, F, r, q⟩ => ⟨T, env, F, r, ho.mono _ _ _ (fun s e ⟨ks, ds, hs, q⟩ x T1 H1 F1 f1 a1 z1 => ?_) q⟩, fun env Q Q' i q => ho.mono _ _ _ (fun s e ⟨ks, ds, hs, q⟩ => ⟨ks, ds, hs, he.mono _ _ _ (fun s2 e2 ⟨k, h1, q⟩ => ⟨k, h1, i _ _ q⟩) q⟩) q⟩
  subst hs
  have fz1 : Fz G.K (hid T1 H1) x (.dic ks ds) := z1.rel.1
  cases fz1 with
  | dic l hl f =>
    rename_i a vs
    have isd : ∀ {H : Hp}, Rd H a (.dK (ks.zip vs)) → IsD H a := fun h => by
      rcases h with h | ⟨o, h⟩
      · exact .inl ⟨_, .inl h⟩
      · exact .inl ⟨_, .inr ⟨o, h⟩⟩
    have un : Rd H1 a (.dK (ks.zip vs)) := by
      rcases l with l | ⟨o, l⟩
      · exact .inl (hid_some l).1
      · exact .inr ⟨o, (hid_some l).1⟩
    refine ⟨a, rfl, isd un, T1, e, F1, a1.re, he.mono _ _ _ (fun s2 e2 ⟨k, h1, q⟩ y T2 H2 F2 f2 a2 z2 => ?_) q⟩
    subst h1
    have ey := fz_dK z2.rel.1
    subst ey
    have ex := a2.chg.hid a1.re.sub
    have un2 : Rd H2 a (.dK (ks.zip vs)) := by
      rcases l with l | ⟨o, l⟩
      · exact .inl (hid_some (ex a _ l)).1
      · exact .inr ⟨o, (hid_some (ex a _ l)).1⟩
    refine ⟨valV (ks.zip vs) k, .inl ⟨_, k, un2, rfl, rfl⟩, ?_⟩
    exact q _ T2 H2 F2 [] (a1.trans r.trk a2) (res_f (fz_get (f.ex ex)))
end
end Fx

/-! defs that are called while an exception is handled, the exception tracked -/
namespace L2H
open PySem PySem.Spec PyProof.Rows
end L2H
namespace L2
open PySem PySem.Spec PyProof.Rows L2H
section
variable {P : Program} {w : World} {K : PySem.W.Frag} {mg : Str → Option Value} {base : Heap} {N ps : List Str} {qual : Str} {scope : Scope} {f : Addr} {A : Around} {outer : List Env} {s s1 : Shared} {H : Hp} {E : XK} {us : List Value} {vs : List V}
end
section
variable {X : Cx} {x : Str} {p pos : Pos} {k j : Nat} {sp : Sp} {e : Expr} {es : List Expr} {ta : TA}
end
end L2

namespace Fx
open PySem PySem.Spec PyProof.Rows L2 L2H Evl Lk
/-! ### defs that are called in except suites -/
section
variable {P : Program} {w : World} {K : PySem.W.Frag} {mg : Str → Option Value} {base : Heap} {x q : Str} {st : Stmt} {N ps : List Str} {k : Nat} {tabs : List Addr}
end
section
variable {X : Cx} {G : Gx} {e : Expr} {es : List Expr} {wd : WAD} {x : Str} {k j : Nat} {tabs : List Addr} {p pos : Pos} {W : WFn}
end

/-! ### isinstance(x, (A, B, ..)) -/
section
variable {X : Cx} {G : Gx}
end
end Fx

namespace Fx
open PySem PySem.Spec PyProof.Rows L2 L2H Evl Lk
/-! ### text.split(sep), owned -/
section
variable {X : Cx} {G : Gx} {e : Expr} {w w1 w2 : WE}
/-! ### x[lo:hi], x a slot that owns a list -/
end
/-! ### steps of walks -/
section
variable {w1 w2 : WE} {wl wh : WO} {env : Env} {Q : Sl → Env → Prop} {w r : WPs} {QP : List (D × D) → Env → Prop}
theorem x_get (h : w1 env fun r e => ∃ ks ds, r = .f (.dic ks ds) ∧ w2 e fun r2 e2 => ∃ k : Key, r2 = .f (dK k) ∧ Q (.f (getD ks ds k)) e2) : wGet w1 w2 env Q := h
end
end Fx

namespace Fx
open PySem PySem.Spec PyProof.Rows L2 Evl Lk
/-! ### len(set(xs)), xs a list of texts, as many as there are -/
/-- how many different ones -/
def dst (xs : List Str) : Nat := (SS.met (fun i => xs.getD i Str.empty) xs.length).length
section
variable {X : Cx} {G : Gx} {w : WE}
end
end Fx

namespace Fx
open PySem PySem.Spec PyProof.Rows L2 Evl Lk
/-! ### comprehensions of two fors -/
theorem wipeE_get {e : Env} : ∀ {vs : List Nat} {i : Nat}, (wipeE e vs)[i]? = if i ∈ vs then (if i < e.length then some none else none) else e[i]?
  | [], i => by simp [wipeE]
  | v :: vs, i => by
    by_cases h : i = v
    · subst h
      rw [if_pos (List.mem_cons_self ..), wipeE]
      by_cases hl : i < e.length
      · rw [if_pos hl, List.getElem?_set_self (by rw [wipeE_len]; exact hl)]
      · rw [if_neg hl, List.getElem?_eq_none (by rw [List.length_set, wipeE_len]; omega)]
    · rw [wipeE, List.getElem?_set_ne (Ne.symm h), wipeE_get (vs := vs)]
      by_cases k : i ∈ vs
      · rw [if_pos k, if_pos (List.mem_cons_of_mem _ k)]
      · rw [if_neg k, if_neg (fun z => (List.mem_cons.mp z).elim h k)]
theorem wipeE_sub {e : Env} {v1 v2 : List Nat} {k : Nat} {s : Sl} (sub : ∀ i ∈ v1, i ∈ v2) (h : (wipeE e v2)[k]? = some (some s)) : (wipeE e v1)[k]? = some (some s) := by
  obtain ⟨h1, h2⟩ := wipeE_some h
  rw [wipeE_get, if_neg (fun z => h2 (sub k z)), h1]
theorem wipeE_both {e : Env} {v1 v2 : List Nat} (sub : ∀ i ∈ v1, i ∈ v2) : wipeE (wipeE e v1) v2 = wipeE e v2 := by
  refine List.ext_getElem? fun k => ?_
  rw [wipeE_get, wipeE_get (vs := v2), wipeE_len]
  by_cases h : k ∈ v2
  · rw [if_pos h, if_pos h]
  · rw [if_neg h, if_neg h, wipeE_get, if_neg (fun z => h (sub k z))]
section
variable {G : Gx} {T T1 T4 : Addr → Prop} {H H1 H2 H4 : Hp} {σ σ' σ2 : L2.St} {env e e4 : Env} {F F1 F4 : Nat → List Addr} {Dl : Addr} {acc : List D} {vacc : List V} {vs v1 v2 : List Nat}
end
section
variable {X : Cx} {G : Gx} {wi wi1 : WI} {tg tg1 : Tgt} {vs vs1 : List Nat} {t t1 : WT} {w : WE}
end
end Fx

namespace Fx
open PySem PySem.Spec PyProof.Rows L2 Evl Lk
/-! ### comprehensions of two fors: the rules -/
section
variable {X : Cx} {G : Gx} {elt tg iter tg1 iter1 c c1 : Expr} {scope : Scope} {own : List (Str × Nat)} {vs1 : List Nat} {pos : Pos} {wi wi1 : WI} {t t1 : Tgt} {w : WE} {wt wt1 : WT}
/-! the walk -/
end
end Fx

namespace Fx
open PySem PySem.Spec PyProof.Rows L2 Evl Lk
/-! ### xs.append(e), xs owned -/
def wApp (k : Nat) (wd : WAD) : WS := fun D env => (∃ s, env[k]? = some (some (.own (.lst s)))) ∧ wd env fun as e => ∃ d ds, as = [d] ∧ e[k]? = some (some (.own (.lst ds))) ∧ ds.length ≤ 100000 ∧ D.nx (e.set k (some (.own (.lst (ds ++ [d])))))
section
variable {X : Cx} {G : Gx} {wd : WAD}
theorem gs_append {o e : Expr} {k : Nat} {apos cpos pos : Pos} (ho : PE X o (tVar k)) (ha : GD X G [e] wd) (hs : swapsWith (.Call (.Attribute o "append" apos) [e] [] cpos) none pos.line X.env = pure false := by rfl)
    (hbase : attributeBase o "append" X.env (eval o X.env) = eval o X.env := by rfl)
    (hfew : ((backTo cpos (starEach [e] X.env)).all (fun x => !x.1) && (backToKw cpos (keywordEach [] X.env)).all (fun x => x.1.isSome) && decide (([e] : List Expr).length + ([] : List Keyword).length + (if ([] : List Keyword).isEmpty then 0 else 1) < 30)) = true := by rfl)
    (hline : (apos.endLine == cpos.line) = true := by rfl) (hst : starEach [e] X.env = (false, eval e X.env) :: starEach [] X.env := by rfl) (hpl : (backTo cpos (starEach [] X.env)).any (·.1) = false := by rfl) :
    GS X G (.Expr (.Call (.Attribute o "append" apos) [e] [] cpos) pos) (wApp k wd) := by
  refine ⟨ps_imp (ps_expr (pe_bm PySem.F.plainAttrs_list PySem.F.slot_list_append PySem.F.type_list_append mt_append ho ha.ga.pa hbase hfew hline hst hpl) hs) fun D σ H ⟨T, env, F, r, ⟨s0, h0⟩, q⟩ => ?_, fun D D' env l ⟨h0, q⟩ => ⟨h0, ha.mono _ _ _ (fun as e ⟨d, ds, h1, h2, h3, q⟩ => ⟨d, ds, h1, h2, h3, l.nx _ q⟩) q⟩⟩
  obtain ⟨p0, vs0, s1, hp0, _, _⟩ := own_lst r h0
  refine ⟨_, s1, ?_, T, env, F, r, ha.mono _ _ _ (fun as e ⟨d, ds, h1, h2, h3, q⟩ vs T1 H1 F1 Fa a z => ?_) q⟩
  · exact .inl ⟨rfl, vs0, SqL.of hp0⟩
  subst h1
  obtain ⟨v, v1, v2, _⟩ := z.val 0 (.f d) rfl
  have hl : vs.length = 1 := z.len
  obtain ⟨p, ws, s2, hp1, f1, upd_⟩ := own_lst a.re h2
  rw [s1] at s2
  cases s2
  have e1 : vs = [v] := by
    match vs, hl, v1 with
    | [x], _, v1 => cases v1; rfl
  have fz : Fz G.K (hid T1 H1) v d := v2.1
  have a2 := upd_ (ws ++ [v]) (ds ++ [d]) (f1.append (.cons fz .nil))
  exact ⟨p0, ws, v, rfl, e1, hp1, by rw [f1.length]; exact Nat.lt_of_le_of_lt h3 (by decide), q σ T1 _ F1 a2.re ((a.chg.hid r.sub).trans (a2.chg.hid a.re.sub))⟩
theorem x_app {k : Nat} {D : WEnds} {env : Env} {s : List Fx.D} (h0 : env[k]? = some (some (.own (.lst s)))) (h : wd env fun as e => ∃ d ds, as = [d] ∧ e[k]? = some (some (.own (.lst ds))) ∧ ds.length ≤ 100000 ∧ D.nx (e.set k (some (.own (.lst (ds ++ [d])))))) : wApp k wd D env := ⟨⟨s, h0⟩, h⟩
theorem x_appE {k : Nat} {q : Env → Prop} {env : Env} {d : Fx.D} {ds : List Fx.D} (h0 : env[k]? = some (some (.own (.lst ds)))) (hl : ds.length ≤ 100000) (h : q (env.set k (some (.own (.lst (ds ++ [d])))))) : ∃ d' ds', [d] = [d'] ∧ env[k]? = some (some (.own (.lst ds'))) ∧ ds'.length ≤ 100000 ∧ q (env.set k (some (.own (.lst (ds' ++ [d']))))) := ⟨d, ds, rfl, h0, hl, h⟩
end
end Fx

namespace Fx
open PySem PySem.Spec PyProof.Rows L2 Evl Lk
/-! ### x op e, x a name whatever it holds: read again behind e -/
def wBinV (o : Op2) (i : Nat) (w2 : WE) : WE := fun env Q => (∃ s, env[i]? = some (some s)) ∧ w2 env fun r2 e2 => ∃ s d1 d2, e2[i]? = some (some s) ∧ s.cd = some d1 ∧ r2.cd = some d2 ∧ o d1 d2 fun d => Q (.f d) e2
section
variable {X : Cx} {G : Gx} {o : Op2} {w2 : WE} {i : Nat} {a b : Expr} {pos : Pos}
theorem binVW (mb : MonoE w2) (mo : MonoO o) {σ : L2.St} {H : Hp} {Q : VK} (h : tW G (wBinV o i w2) σ H Q) : tOp (rO G o) (tVar i) (tW G w2) σ H Q := by
  obtain ⟨T, env, F, r, ⟨s0, h0⟩, q⟩ := h
  obtain ⟨v, hv, _⟩ := r.slot i s0 h0
  refine ⟨v, hv, T, env, F, r, mb env _ _ (fun r2 e2 ⟨s, d1, d2, h1, c1, c2, q⟩ v2 T2 H2 F2 f2 a2 z2 => ?_) q⟩
  obtain ⟨v', hv', z1⟩ := a2.re.slot i s h1
  rw [hv] at hv'
  cases hv'
  refine ⟨T2, d1, d2, a2.re.trk, z1.cz c1, z2.rel.cz c2, mo _ _ _ _ (fun d q v H3 e3 fz => ?_) q⟩
  exact q v T2 H3 F2 [] (a2.trans r.trk (Att.ex a2.re e3)) ⟨⟨fz, rfl⟩, nofun, nofun⟩
theorem monoBinV (mb : MonoE w2) (mo : MonoO o) : MonoE (wBinV o i w2) := fun env Q Q' j ⟨h, q⟩ => ⟨h, mb env _ _ (fun r2 e2 ⟨s, d1, d2, h1, c1, c2, q⟩ => ⟨s, d1, d2, h1, c1, c2, mo _ _ _ _ (fun d q => j _ _ q) q⟩) q⟩
theorem gt_cmpV {op : CmpOp} (ho : OpX X G (compareOp op) o) (ha : PE X a (tVar i)) (hb : GE X G b w2) (hm : behindInMarks op b = false) : GT X G (.Compare a [op] [b] pos) (wTB (wBinV o i w2)) := by
  have m := monoBinV (i := i) hb.mono ho.mono
  refine ⟨pt_imp (pt_cmpR ho.ok ha hb.pe hm) fun σ H Q ⟨T, env, F, r, q⟩ => ?_, fun env Q Q' i q => m env _ _ (fun s e ⟨b, hb, q⟩ => ⟨b, hb, i _ _ q⟩) q⟩
  refine binVW hb.mono ho.mono ⟨T, env, F, r, m env _ _ (fun s e ⟨b, hb, q⟩ v T' H' F' fr a z => ?_) q⟩
  subst hb
  obtain ⟨h1, _⟩ := z.rel
  cases h1
  exact ⟨_, rfl, q T' H' F' a⟩
theorem ge_ixV (ho : IxX X G o) (ha : PE X a (tVar i)) (hb : GE X G b w2) (hs : PlainIx b) : GE X G (.Subscript a b pos) (wBinV o i w2) :=
  ⟨pe_imp (pe_ix ho.ok ha hb.pe hs) fun _ _ _ h => binVW hb.mono ho.mono h, monoBinV hb.mono ho.mono⟩
theorem x_binV {env : Env} {Q : Sl → Env → Prop} {s : Sl} (h0 : env[i]? = some (some s)) (h : w2 env fun r2 e2 => ∃ s d1 d2, e2[i]? = some (some s) ∧ s.cd = some d1 ∧ r2.cd = some d2 ∧ o d1 d2 fun d => Q (.f d) e2) : wBinV o i w2 env Q := ⟨⟨s, h0⟩, h⟩
end
end Fx

namespace Fx
open PySem PySem.Spec PyProof.Rows L2 Evl Lk
/-! ### is True, is False, asked of a truth value -/
theorem isnB_eq (a b : Bool) : compareOp .IsNot (.bool a) (.bool b) = pure (.bool (!(a == b))) := by
  cases a <;> cases b <;> first | rfl | simp [compareOp, isSame]
def dIsB (neg : Bool) : Op2 := fun a b Q => ∃ x c, a = .bl x ∧ b = .bl c ∧ Q (.bl (if neg = true then !(x == c) else x == c))
section
variable {X : Cx} {G : Gx}
theorem opx_notB : OpX X G (compareOp .IsNot) (dIsB true) := by
  refine ⟨fun pins s σ H x y v u Q I rx ry ⟨T, d1, d2, t, c1, c2, x', c, h1, h2, q⟩ => ?_, fun a b Q Q' i ⟨x, c, h1, h2, q⟩ => ⟨x, c, h1, h2, i _ q⟩⟩
  subst h1 h2
  cases c1
  cases c2
  cases rx
  cases ry
  rw [isnB_eq]
  exact wpAny_pure (fin_bl I (q _ H (Ex.refl H) (.bl _)) rfl)
theorem x_isB {neg x c : Bool} {Q : D → Prop} (h : Q (.bl (if neg = true then !(x == c) else x == c))) : dIsB neg (.bl x) (.bl c) Q := ⟨x, c, rfl, rfl, h⟩
end
/-! ### xs.pop(e), xs owned -/
def wPopD (k : Nat) (wd : WAD) : WE := fun env Q => (∃ s, env[k]? = some (some (.own (.lst s)))) ∧ wd env fun as e => ∃ (i : Int) (ds : List D) (d : D), as = [.int i] ∧ e[k]? = some (some (.own (.lst ds))) ∧ 0 ≤ i ∧ ds.length ≤ 100000 ∧ ds[i.toNat]? = some d ∧ Q (.f d) (e.set k (some (.own (.lst (ds.eraseIdx i.toNat)))))
section
variable {X : Cx} {G : Gx} {wd : WAD}
theorem ge_popD {o e : Expr} {k : Nat} {apos cpos : Pos} (ho : PE X o (tVar k)) (ha : GD X G [e] wd)
    (hbase : attributeBase o "pop" X.env (eval o X.env) = eval o X.env := by rfl)
    (hfew : ((backTo cpos (starEach [e] X.env)).all (fun x => !x.1) && (backToKw cpos (keywordEach [] X.env)).all (fun x => x.1.isSome) && decide (([e] : List Expr).length + ([] : List Keyword).length + (if ([] : List Keyword).isEmpty then 0 else 1) < 30)) = true := by rfl)
    (hline : (apos.endLine == cpos.line) = true := by rfl) (hst : starEach [e] X.env = (false, eval e X.env) :: starEach [] X.env := by rfl) (hpl : (backTo cpos (starEach [] X.env)).any (·.1) = false := by rfl) :
    GE X G (.Call (.Attribute o "pop" apos) [e] [] cpos) (wPopD k wd) := by
  refine ⟨pe_imp (pe_bm PySem.F.plainAttrs_list PySem.F.slot_list_pop PySem.F.type_list_pop mt_popAt ho ha.ga.pa hbase hfew hline hst hpl) fun σ H Q ⟨T, env, F, r, ⟨s0, h0⟩, q⟩ => ?_, fun env Q Q' ii ⟨h0, q⟩ => ⟨h0, ha.mono _ _ _ (fun as e ⟨i, ds, d, h1, h2, h3, h4, h5, q⟩ => ⟨i, ds, d, h1, h2, h3, h4, h5, ii _ _ q⟩) q⟩⟩
  obtain ⟨p0, vs0, s1, hp0, _, _⟩ := own_lst r h0
  refine ⟨_, s1, .inl ⟨rfl, vs0, SqL.of hp0⟩, T, env, F, r, ha.mono _ _ _ (fun as e ⟨i, ds, d, h1, h2, h3, h4, h5, q⟩ vs T1 H1 F1 Fa a z => ?_) q⟩
  subst h1
  obtain ⟨v, v1, v2, _⟩ := z.val 0 (.f (.int i)) rfl
  have hl : vs.length = 1 := z.len
  obtain ⟨p, ws, s2, hp1, f1, upd_⟩ := own_lst a.re h2
  rw [s1] at s2
  cases s2
  have e1 : vs = [v] := by
    match vs, hl, v1 with
    | [x], _, v1 => cases v1; rfl
  have fz : Fz G.K (hid T1 H1) v (.int i) := v2.1
  cases fz
  have hj : i.toNat < ws.length := by rw [f1.length]; exact (List.getElem?_eq_some_iff.mp h5).1
  have a2 := upd_ (ws.eraseIdx i.toNat) (ds.eraseIdx i.toNat) (f1.erase _)
  have fd := f1.get (List.getElem?_eq_getElem hj) h5
  have hlen : ws.length ≤ 100000 := by rw [f1.length]; exact h4
  refine ⟨p0, ws, i, i.toNat, ws[i.toNat], rfl, e1, hp1, by omega, by omega, ?_, List.getElem?_eq_getElem hj, q _ T1 _ F1 [] (a.trans r.trk a2) (res_f (fd.ex (a2.chg.hid a.re.sub)))⟩
  unfold seqIndex?
  simp
  omega
theorem x_popD {k : Nat} {Q : Sl → Env → Prop} {env : Env} {s : List D} (h0 : env[k]? = some (some (.own (.lst s)))) (h : wd env fun as e => ∃ (i : Int) (ds : List D) (d : D), as = [.int i] ∧ e[k]? = some (some (.own (.lst ds))) ∧ 0 ≤ i ∧ ds.length ≤ 100000 ∧ ds[i.toNat]? = some d ∧ Q (.f d) (e.set k (some (.own (.lst (ds.eraseIdx i.toNat)))))) : wPopD k wd env Q := ⟨⟨s, h0⟩, h⟩
end
/-! ### x + e, lists, x a name, the sum owned -/
section
variable {X : Cx} {G : Gx} {w2 : WE} {i : Nat} {a b : Expr} {pos : Pos}
/-! ### x op e, as a value; x[lo:hi] of a value, the part owned -/
def wSlN (w : WE) (lo hi : WO) : WE := fun env Q => w env fun r e => ∃ ds, r = .f (.lst ds) ∧ lo e fun l e2 => hi e2 fun u e3 => Q (.own (.lst (cutD ds l u))) e3
theorem ge_slN {e : Expr} {w : WE} {lo hi : Option Expr} {wl wh : WO} {p2 : Pos} (he : GE X G e w) (hl : GO X G lo wl) (hu : GO X G hi wh) (hK : X.K = G.K := by rfl) : GE X G (.Subscript e (.Slice lo hi none p2) pos) (wSlN w wl wh) := by
  refine ⟨pe_imp (pe_slice (r := fun x lo hi H Q => ∃ a vs, x = .ref a ∧ SqL X.K H a vs ∧ ∀ p, H p = none → Q (.ref p) (upd H p (.lst (cutV vs lo hi)))) (fun pins s σ H x v vl vu lo hi sl Q I rx hs pl pu h => sl_list pins s σ H x v vl vu lo hi sl Q I rx hs pl pu h) he.pe hl.po hu.po) fun σ H Q ⟨T, env, F, r, q⟩ => ⟨T, env, F, r, he.mono _ _ _ (fun s e ⟨ds, hs, q⟩ x T1 H1 F1 f1 a1 z1 => ?_) q⟩, fun env Q Q' i q => he.mono _ _ _ (fun s e ⟨ds, hs, q⟩ => ⟨ds, hs, hl.mono _ _ _ (fun l e2 q => hu.mono _ _ _ (fun u e3 q => i _ _ q) q) q⟩) q⟩
  subst hs
  refine ⟨T1, e, F1, a1.re, hl.mono _ _ _ (fun l e2 q T2 H2 F2 a2 => ⟨T2, e2, F2, a2.re, hu.mono _ _ _ (fun u e3 q T3 H3 F3 a3 => ?_) q⟩) q⟩
  have a13 := (a1.trans r.trk a2).trans r.trk a3
  obtain ⟨p1, vs, rfl, l1, f⟩ := Cz.of (Fz.att a2.re a3 (Fz.att a1.re a2 z1.rel.1))
  refine ⟨p1, vs, rfl, by rw [hK]; exact l1, fun p np => ?_⟩
  exact q _ _ _ F3 [p] (a13.trans r.trk (att_new a3.re np)) (res_trans r.trk a13 (own_new a3.re np (.lst (.inr rfl) upd_same ((f.cut l u).ex (hid_new np)))))
theorem x_slN2 {w : WE} {lo hi : WO} {env : Env} {Q : Sl → Env → Prop} (h : w env fun r e => ∃ ds, r = .f (.lst ds) ∧ lo e fun l e2 => hi e2 fun u e3 => Q (.own (.lst (cutD ds l u))) e3) : wSlN w lo hi env Q := h
end
end Fx

namespace Fx
open PySem PySem.Spec PyProof.Rows L2 Evl Lk
theorem x_tplL {ds : List D} {Q : D → Prop} (h : Q (.tup ds)) : cTuple [.lst ds] Q := h
end Fx

namespace Fx
open PySem PySem.Spec PyProof.Rows L2 Evl Lk
/-! ### sets whose order of walking is known: what L2 has for whole numbers, for any kind of key -/
namespace SO
variable {P : Program} {w : World} {κ : Type} [DecidableEq κ] {knd : KeyKind P w κ}
def SetS (knd : KeyKind P w κ) (h : Heap) (a : Addr) (S : κ → Bool) (n : Nat) : Prop := ∃ (o : Obj) (es : Array (Int × Value)) (ep : Nat) (t : SetTable), h.get? a = some o ∧ o.ExactSet ∧ o.data = .set es ep t ∧ ElemsOf knd es.toList ∧ (∀ k, S k = true ↔ ∃ e, e ∈ es.toList ∧ knd.is k e.snd = true) ∧
  es.size < scanBound ∧ t.fits es.size = true ∧ es.size = n ∧ Ris t.place.toList ∧ (w.params.followText "set-order" = true ∨ t.led = true)
theorem SetS.setOf {h : Heap} {a : Addr} {S : κ → Bool} {n : Nat} : SetS knd h a S n → Heap.SetOf knd h a S n
  | ⟨o, es, ep, t, h1, h2, h3, h4, h5, h6, h7, h8, _, _⟩ => ⟨o, es, ep, t, h1, h2, h3, h4, h5, h6, h7, h8⟩
theorem add_tail {A : Around} {E : Value → Shared → Prop} {s : Shared} {a : Addr} {g : Bool → Sem Unit} (hg : ∀ (b : Bool) (s₁ : Shared) (Q' : Unit → Shared → Prop), Q' () s₁ → wpAny (model P w) A (g b) Q' E s₁)
    {o : Obj} {es : Array (Int × Value)} {ep : Nat} {t : SetTable} (ho : s.heap.get? a = some o) (hx : o.ExactSet) (hd : o.data = .set es ep t)
    {es1 : Array (Int × Value)} {t2 : SetTable} {S' : κ → Bool} (he : ElemsOf knd es1.toList) (hS : ∀ k, S' k = true ↔ ∃ e, e ∈ es1.toList ∧ knd.is k e.snd = true) (hb : es1.size < scanBound) (hf : t2.fits es1.size = true) (hr : Ris t2.place.toList) (hl : w.params.followText "set-order" = true ∨ t2.led = true)
    {wd : Bool} {R : Option Bool → Shared → Prop} (q : ∀ h', Heap.SameBut a s.heap h' → SetS knd h' a S' es1.size → R (some true) { s with heap := h' }) :
    wpAny (model P w) A (do
      storeSet a es1 t2
      if (!wd && t2.tooFull) = true then do
        g (relayAll t2 es1 (SetTable.grown es1.size)).snd.snd
        storeSet a (relayAll t2 es1 (SetTable.grown es1.size)).fst (relayAll t2 es1 (SetTable.grown es1.size)).snd.fst
        pure (some true)
      else pure (some true)) R E s := by
  have st := store_at (es' := es1) (t' := t2) ho hd
  refine wpAny_bind (wpAny_storeSet_of ho hd ?_ (fits_of_scanBound hb))
  by_cases hc : (!wd && t2.tooFull) = true
  · rw [if_pos hc]
    refine wpAny_bind (hg _ _ _ ?_)
    have pm := relayAll_perm t2 es1 (SetTable.grown es1.size)
    have ff := relayAll_fits t2 es1 (SetTable.grown es1.size)
    have rr := relayAll_ris t2 es1 (SetTable.grown es1.size)
    have ll := relayAll_led t2 es1 (SetTable.grown es1.size)
    generalize relayAll t2 es1 (SetTable.grown es1.size) = r at pm ff rr ll
    have hz : r.1.size = es1.size := by
      have := pm.length_eq
      simpa using this
    refine wpAny_bind (wpAny_storeSet_of (s := { s with heap := s.heap.update a (Obj.putSet es1 t2) }) st rfl ?_ (fits_of_scanBound (by rw [hz]; exact hb)))
    have st2 := store_at (es' := r.1) (t' := r.2.1) st rfl
    refine wpAny_pure (q _ (Heap.SameBut.trans (Heap.SameBut.update s.heap a (Obj.putSet es1 t2)) (Heap.SameBut.update _ a (Obj.putSet r.1 r.2.1))) ⟨_, r.1, _, r.2.1, st2, hx, rfl, he.perm pm, fun k => (hS k).trans ⟨fun ⟨e, h1, h2⟩ => ⟨e, pm.mem_iff.mpr h1, h2⟩, fun ⟨e, h1, h2⟩ => ⟨e, pm.mem_iff.mp h1, h2⟩⟩, by rw [hz]; exact hb, ff, hz, rr, by rw [ll]; exact hl⟩)
  · rw [if_neg hc]
    exact wpAny_pure (q _ (Heap.SameBut.update s.heap a (Obj.putSet es1 t2)) ⟨_, es1, _, t2, st, hx, rfl, he, hS, hb, hf, rfl, hr, hl⟩)
theorem add_hashed {A : Around} {E : Value → Shared → Prop} {s : Shared} {a : Addr} {S : κ → Bool} {n : Nat} {k : κ} {x : Value} {Q : Bool → Shared → Prop} (hk : knd.is k x = true) (hsx : x.scannable = true) (H : SetS knd s.heap a S n) (hb : n + 1 < scanBound)
    (q : ∀ h', Heap.SameBut a s.heap h' → SetS knd h' a (fun k' => S k' || decide (k' = k)) (if S k = true then n else n + 1) → Q (!S k) { s with heap := h' }) : wpAny (model P w) A (setAddHashed a x (knd.hash k)) Q E s := by
  obtain ⟨o, es, ep, t, ho, hx, hd, he, hS, hb2, hf, hn, hr, hl⟩ := H
  subst hn
  show wpAny _ _ (holding [x] (setAddHashedIn a x (knd.hash k) 100000)) Q E s
  refine wpAny_holding ?_
  rw [setAddHashedIn.eq_def]
  dsimp only
  refine wpAny_bind (wpAny_setState_of ho hd hf ?_)
  dsimp only
  rw [if_pos (byScan_of hsx hb2 he)]
  refine wpAny_bind ?_
  unfold setAddByScan
  refine wpAny_bind (wpAny_rule ?_)
  refine wpAny_bind (wpAny_setScan_of hk ho hd hf he ?_)
  cases hfi : List.findIdx? (fun e => knd.is k e.snd) es.toList with
  | some j =>
    dsimp only
    have hSk : S k = true := by
      obtain ⟨hj, h1, _⟩ := List.findIdx?_eq_some_iff_getElem.mp hfi
      exact (hS k).mpr ⟨_, List.getElem_mem hj, h1⟩
    refine wpAny_pure ?_
    dsimp only
    refine wpAny_pure ?_
    have q := q s.heap (Heap.SameBut.refl _ _)
    rw [if_pos hSk, hSk] at q
    refine q ⟨o, es, ep, t, ho, hx, hd, he, fun k' => ?_, hb2, hf, rfl, hr, hl⟩
    rw [← hS k', Bool.or_eq_true, decide_eq_true_iff]
    exact ⟨fun h => h.elim id fun e => by rw [e]; exact hSk, .inl⟩
  | none =>
    dsimp only
    have hSk : S k = false := by
      cases e : S k with
      | false => rfl
      | true =>
        obtain ⟨y, h1, h2⟩ := (hS k).mp e
        have := List.findIdx?_eq_none_iff.mp hfi y h1
        rw [h2] at this
        cases this
    have pm := layNew_perm t es (knd.hash k) x
    have ff := layNew_fits t es (knd.hash k) x
    have rr := layNew_ris t es (knd.hash k) x hr
    have ll := layNew_led t es (knd.hash k) x
    generalize layNew t es (knd.hash k) x = r at pm ff rr ll
    obtain ⟨es1, t1, wd, gv⟩ := r
    dsimp only at pm ff rr ll ⊢
    have e1 : ElemsOf knd es1.toList := (he.push hk hsx).perm (by rw [Array.toList_push] at pm; exact pm)
    have m1 := mem_push_iff hk hS (l' := es1.toList) (by rw [Array.toList_push] at pm; exact pm)
    have z1 : es1.size = es.size + 1 := by
      have := pm.length_eq
      simpa using this
    have q1 : ∀ h', Heap.SameBut a s.heap h' → SetS knd h' a (fun k' => S k' || decide (k' = k)) es1.size → Q true { s with heap := h' } := fun h' g1 g2 => by
      have q := q h' g1
      rw [hSk, if_neg Bool.false_ne_true, ← z1] at q
      exact q g2
    have hb1 : es1.size < scanBound := by rw [z1]; exact hb
    refine wpAny_bind ?_
    cases gv
    all_goals first | refine wpAny_pure ?_ | refine wpAny_rule ?_
    all_goals
      have gw : ∀ b : Bool, (if b = true then t1 else { t1 with plain := false }).fits es1.size = true ∧ Ris (if b = true then t1 else { t1 with plain := false }).place.toList ∧ (w.params.followText "set-order" = true ∨ (if b = true then t1 else { t1 with plain := false }).led = true) := fun b => by
        cases b with
        | true => exact ⟨ff, rr, by rw [if_pos rfl, ll]; exact hl⟩
        | false => exact ⟨SetTable.fits_plain_off ff, rr, by rw [if_neg Bool.false_ne_true]; exact hl.imp id fun h => ll.trans h⟩
      by_cases hp : t1.plain = true
      · rw [if_pos hp]
        refine wpAny_bind ?_
        rw [hashByValue_scannable 8 hsx]
        refine wpAny_pure ?_
        obtain ⟨g1, g2, g3⟩ := gw (plainKind x)
        exact add_tail (fun b s₁ Q' h => by cases b <;> first | exact wpAny_pure h | exact wpAny_rule h) ho hx hd e1 m1 hb1 g1 g2 g3 fun h' a1 a2 => wpAny_pure (q1 h' a1 a2)
      · rw [if_neg hp]
        refine wpAny_bind ?_
        refine wpAny_pure ?_
        obtain ⟨g1, g2, g3⟩ := gw true
        exact add_tail (fun b s₁ Q' h => by cases b <;> first | exact wpAny_pure h | exact wpAny_rule h) ho hx hd e1 m1 hb1 g1 g2 g3 fun h' a1 a2 => wpAny_pure (q1 h' a1 a2)
end SO
end Fx

namespace Fx
open PySem PySem.Spec PyProof.Rows L2
namespace SO
theorem code_set_led1 {P : Program} {w : World} {A : Around} {E : Value → Shared → Prop} {s : Shared} (a : Value) {Q₁ : Value → Shared → Prop}
    (h : Q₁ (.ref s.heap.objs.size) { s with heap := s.heap.push { cls := .type "set", data := .set #[] 0 (.fresh 0 0 (!w.params.followText "set-order")) } }) :
    codeAny (model P w) A (.call (.builtin "set.__new__") ⟨[.type "set", a], []⟩) (wants Q₁ E) s := by
  refine codeAny_call_builtin_at (plainId_quiet PySem.F.plain_set_new _) PySem.F.entry_set_new (wpAny_of_eq (PySem.F.newCall_set_1 a) ?_)
  rw [Around.under_plainId PySem.F.plain_set_new _]
  show wpAny _ A.in1 (Builtin.Frozenset.newClass "set" ⟨[.type "set", a], []⟩ >>= fun x => newSet x.fst >>= fun y => ret y) _ _ s
  refine wpAny_bind ?_
  unfold Builtin.Frozenset.newClass
  dsimp only
  refine wpAny_bind (wpAny_of_eq (show isType (.type "set") = pure true from rfl) ?_)
  rw [if_neg (by decide)]
  refine wpAny_bind (wpAny_of_eq sub_set_self ?_)
  rw [if_neg (by decide)]
  refine wpAny_pure ?_
  refine wpAny_bind ?_
  unfold newSet
  refine wpAny_bind (wpAny_byText ?_)
  dsimp only
  unfold newObj
  dsimp only
  rw [if_neg (by decide)]
  unfold newObjAsIs
  refine wpAny_bind (wpAny_alloc ?_)
  dsimp only
  refine wpAny_pure ?_
  exact wpAny_pure h
theorem setS_congr {P : Program} {w : World} {κ : Type} [DecidableEq κ] {knd : KeyKind P w κ} {h : Heap} {a : Addr} {S S' : κ → Bool} {n n' : Nat} (H : SetS knd h a S n) (e : ∀ k, S k = S' k) (e2 : n = n') : SetS knd h a S' n' := by
  obtain ⟨o, es, ep, t, h1, h2, h3, h4, h5, h6⟩ := H
  subst e2
  exact ⟨o, es, ep, t, h1, h2, h3, h4, fun k => by rw [← e k]; exact h5 k, h6⟩
theorem setS_fresh {P : Program} {w : World} {κ : Type} [DecidableEq κ] {knd : KeyKind P w κ} {h : Heap} {a : Addr} {led : Bool} (ho : h.get? a = some { cls := .type "set", data := .set #[] 0 (.fresh 0 0 led) }) (hl : led = (!w.params.followText "set-order")) : SetS knd h a (fun _ => false) 0 := by
  refine ⟨_, _, _, _, ho, ?_, rfl, ?_, ?_, by unfold scanBound; decide, ?_, rfl, ?_, ?_⟩
  · exact ⟨rfl, rfl, rfl⟩
  · intro e he; simp at he
  · exact fun k => ⟨nofun, fun ⟨e, he, _⟩ => by simp at he⟩
  · first | rfl | decide
  · exact List.Pairwise.nil
  · rw [hl]
    cases w.params.followText "set-order" with
    | true => exact .inl rfl
    | false => exact .inr rfl
end SO
end Fx
namespace Fx.SS
open PySem PySem.Spec PyProof.Rows
section
variable {prog : Program} {w : World} {A : Around} {R : Result → Shared → Prop} {I : Addr} {fp wr : List Addr} {G : Array GenState → Array GenState → Prop} {n : Nat} {P : Nat → Value → Prop} {St : Nat → Shared → Prop}
theorem loop_ord (W : WalksS prog w A.in1 I fp wr G n P St) (S : Addr) (hSf : S ∉ fp) (key : Nat → Str) (hb : n + 1 < scanBound) (hval : ∀ i v, P i v → ∃ t, v = .str (key i) t) :
    ∀ (k i : Nat) (s : Shared), n - i = k → i ≤ n → St i s → SO.SetS (PySem.strKind prog w) s.heap S (fun q => (met key i).any (· == q)) (met key i).length →
      (∀ s', Moved (S :: wr) G s s' → SO.SetS (PySem.strKind prog w) s'.heap S (fun q => (met key n).any (· == q)) (met key n).length → R (.ok (.ret .none)) s') →
      codeAny (model prog w) A (.builtin "set.update.loop" ⟨[.ref S, .ref I], []⟩) R s := by
  have out : S ∉ wr := fun h => hSf (W.sub _ h)
  have old : ∀ {b}, b ∈ wr → b ∈ S :: wr := fun h => List.mem_cons_of_mem _ h
  have moves : ∀ {s s' : Shared} {S' : Str → Bool} {m : Nat}, Moved wr G s s' → SO.SetS (PySem.strKind prog w) s.heap S S' m → SO.SetS (PySem.strKind prog w) s'.heap S S' m := fun hm ⟨o, es, ep, t, ho, rest⟩ => ⟨o, es, ep, t, hm.heap S _ out ho, rest⟩
  intro k
  induction k with
  | zero =>
    intro i s hk hi st hS q
    obtain rfl : i = n := by omega
    refine codeAny_builtin PyProof.Rows.F.entry_set_update_loop ?_
    rw [Around.under_plainId PyProof.Rows.F.plain_set_update_loop _]
    exact wpAny_bind (W.done s _ _ st fun s' hm => wpAny_pure (q s' (hm.mono fun b hb => old hb) (moves hm hS)))
  | succ k ih =>
    intro i s hk hi st hS q
    have lt : i < n := by omega
    have room : (met key i).length + 1 < scanBound := by have := met_len key i; omega
    refine codeAny_builtin PyProof.Rows.F.entry_set_update_loop ?_
    rw [Around.under_plainId PyProof.Rows.F.plain_set_update_loop _]
    refine wpAny_bind (W.item i s _ _ lt st fun v s' hP st' hm => ?_)
    obtain ⟨t, rfl⟩ := hval i v hP
    show wpAny _ A.in1 (holding [Value.str (key i) t] (setAdd S (.str (key i) t)) >>= _) _ _ s'
    unfold setAdd
    refine wpAny_bind (wpAny_holding (wpAny_holding (wpAny_bind ((PySem.strKind prog w).pyHash (k := key i) (strKind_is _ _ _ _) ?_))))
    have hS1 := moves hm hS
    refine SO.add_hashed (knd := PySem.strKind prog w) (s := { s' with toks := s'.toks + 1 }) (strKind_is _ _ _ _) rfl hS1 room fun h' same hS2 => ?_
    have hS3 : SO.SetS (PySem.strKind prog w) h' S (fun q => (met key (i + 1)).any (· == q)) (met key (i + 1)).length := by
      refine SO.setS_congr hS2 (fun q => ?_) ?_
      · show _ = (if (met key i).any (· == key i) then met key i else met key i ++ [key i]).any (· == q)
        split
        · rename_i c
          by_cases e : q = key i
          · rw [e, c]; rfl
          · simp [e]
        · rw [List.any_append]
          congr 1
          by_cases e : q = key i
          · subst e; simp
          · have e' : (key i == q) = false := beq_eq_false_iff_ne.mpr fun h => e h.symm
            simp [e, e']
      · show _ = (if (met key i).any (· == key i) then met key i else met key i ++ [key i]).length
        split
        · rfl
        · rw [List.length_append, List.length_singleton]
    refine wpAny_pure ⟨plainId_quiet PyProof.Rows.F.plain_set_update_loop _, ih (i + 1) _ (by omega) lt (W.frame _ s' _ _ st' (Nat.le_succ _) fun b hb o e => (same.2 b fun h : b = S => hSf (by rw [← h]; exact hb)).trans e) hS3 fun s2 hm2 hS4 => ?_⟩
    exact q s2 (Moved.trans W.gtrans ((hm.mono fun b hb => old hb).then_heap (Nat.le_succ _) fun b o hb e => (same.2 b fun h : b = S => hb (by rw [h]; exact List.mem_cons_self)).trans e) hm2) hS4
end
section
variable {prog : Program} {w : World} {A : Around} {E : Value → Shared → Prop} {s : Shared}
theorem call_set_ord {l : Addr} {items : Array Value} {key : Nat → Str} {Q : Value → Shared → Prop} (hh : A.handled = none) (hl : s.heap.IsList l items) (hv : ∀ (i : Nat) (v : Value), items[i]? = some v → ∃ t, v = .str (key i) t) (hb : items.size + 1 < scanBound)
    (q : ∀ (h' : Heap) (tk : Nat), SO.SetS (PySem.strKind prog w) h' s.heap.objs.size (fun k => (met key items.size).any (· == k)) (met key items.size).length → (∀ b o, b < s.heap.objs.size → s.heap.get? b = some o → h'.get? b = some o) → Q (.ref s.heap.objs.size) { s with heap := h', toks := tk }) :
    wpAny (model prog w) A (call (.type "set") [.ref l]) Q E s := by
  let S0 (led : Bool) : Obj := { cls := .type "set", dict := none, data := .set #[] 0 (.fresh 0 0 led) }
  obtain ⟨c, tl, hmro⟩ := PySem.F.called_set.mro
  have g1 := PySem.F.called_set.made
  have g2 := PySem.F.called_set.sub
  have g3 := PySem.F.called_set.notType
  have g4 := PySem.F.called_set.canCreate
  have g5 := PySem.F.typeCall_set_1 (.ref l)
  refine wpAny_call (codeAny_of_tree (wpAny_pure ⟨Code.quiet_builtin _ (by decide +kernel), codeAny_builtin PySem.F.entry_type_call ?_⟩))
  rw [Around.under_plain (weight_type_call_type "set" [.ref l] []) rfl]
  repeat (any_goals (first | assumption | wp_step))
  refine codeAny_mono (SO.code_set_led1 (.ref l) (E := E) (Q₁ := fun obj s₁ => ∃ led : Bool, led = (!w.params.followText "set-order") ∧ obj = .ref s.heap.objs.size ∧ s₁ = { s with heap := s.heap.push (S0 led) }) ⟨_, rfl, rfl, rfl⟩) fun r s₁ hr => ?_
  cases r with
  | error e => exact hr
  | ok fl =>
    cases fl with
    | ret obj =>
      obtain ⟨led, hled, rfl, rfl⟩ := hr
      have at0 : (s.heap.push (S0 led)).get? s.heap.objs.size = some (S0 led) := Heap.get?_push_size _ rfl
      have ty0 : Shared.TypeIs { s with heap := s.heap.push (S0 led) } (.ref s.heap.objs.size) "set" := ⟨_, at0, rfl⟩
      have g6 := PySem.F.called_set.init.lookup
      have g7 := PySem.F.called_set.init.bind (.ref s.heap.objs.size)
      repeat (any_goals (first | assumption | wp_step))
      refine codeAny_mono (codeAny_call_builtin (R := wants (fun r s₂ => r = .none ∧ ∃ h' tk, s₂ = { s with heap := h', toks := tk } ∧ SO.SetS (PySem.strKind prog w) h' s.heap.objs.size (fun k => (met key items.size).any (· == k)) (met key items.size).length ∧
          (∀ b o, b < s.heap.objs.size → s.heap.get? b = some o → h'.get? b = some o)) E) PySem.F.called_set.init.plain PySem.F.entry_set_init (check_set_init_1 ty0 ?_)) fun r₂ s₂ hr₂ => ?_
      · obtain ⟨⟨ocls, odict, odata, oslots⟩, hol, hcl, nl, hdl⟩ := hl
        simp only at hcl hdl
        subst hcl; subst hdl
        have hol' : (s.heap.push (S0 led)).get? l = some { cls := .type "list", dict := odict, data := .seq items nl, slots := oslots } := Heap.get?_push_of_some _ hol
        have hl1 : (s.heap.push (S0 led)).IsList l items := ⟨_, hol', rfl, nl, rfl⟩
        have g8 := PySem.F.sub_list_set
        have g9 := PySem.F.sub_list_frozenset
        have g10 : (Value.type "list" == Value.type "dict") = false := by decide
        have lt := Heap.lt_size hol
        have hh3 : A.in1.in1.in1.handled = none := by simp [hh]
        have e1 : (s.heap.push (S0 led)).objs.size = s.heap.objs.size + 1 := Heap.size_push ..
        unfold Builtin.«set.__init__» noKeywords Builtin.Frozenset.updateFrom
        generalize hPI : pyIter = PI
        wp_walk
        subst hPI
        refine wpAny_pyIter_list hl1 (wpAny_bind (wpAny_runValue ?_))
        refine loop_ord ((Walks.list hh3 _ l (by rw [e1]; exact Nat.ne_of_lt (Nat.lt_succ_of_lt lt)) items).toS) s.heap.objs.size (by rw [e1]; simp only [List.mem_cons, List.mem_singleton, List.not_mem_nil, or_false, not_or]; exact ⟨Nat.ne_of_lt (Nat.lt_succ_self _), Nat.ne_of_gt lt⟩) key hb hv (items.size - 0) 0 _ (by omega) (Nat.zero_le _) ⟨⟨_, Heap.get?_push_size _ rfl, rfl, rfl⟩, (hl1.push _)⟩ ?_ ?_
        · exact SO.setS_congr (SO.setS_fresh (Heap.get?_push_of_some _ at0) hled) (fun _ => rfl) rfl
        · intro ⟨h', g', d', tk', os'⟩ hm hS
          obtain rfl : g' = s.gens := hm.gens
          obtain rfl : d' = s.drawn := hm.drawn
          obtain rfl : os' = s.os := hm.os
          refine wpAny_pure ?_
          show wpAny _ _ (ret Value.none) _ _ _
          refine wpAny_pure ⟨rfl, h', tk', rfl, hS, fun b o hlt e => hm.heap b o ?_ (Heap.get?_push_of_some _ (Heap.get?_push_of_some _ e))⟩
          rw [e1]
          simp only [List.mem_cons, List.mem_singleton, List.not_mem_nil, or_false, not_or]
          exact ⟨Nat.ne_of_lt hlt, Nat.ne_of_lt (Nat.lt_succ_of_lt hlt)⟩
      · cases r₂ with
        | error e => exact hr₂
        | ok fl₂ =>
          cases fl₂ with
          | ret r =>
            obtain ⟨rfl, h', tk, rfl, hS, hk⟩ := hr₂
            repeat (any_goals (first | assumption | wp_step))
            exact q _ _ hS hk
          | _ => exact hr₂.elim
    | _ => exact hr.elim
end
end Fx.SS

namespace Fx
open PySem PySem.Spec PyProof.Rows L2 Evl Lk
namespace SO
theorem strs_ofE {P : Program} {w : World} : ∀ (vs : List Value), (∀ v ∈ vs, ∃ k : Str, Value.isStrOf k v = true) → ∃ ks, StrsAre vs ks
  | [], _ => ⟨[], .nil⟩
  | v :: vs, h => by
    obtain ⟨ks, hk⟩ := strs_ofE (P := P) (w := w) vs fun x hx => h x (List.mem_cons_of_mem _ hx)
    obtain ⟨k, e⟩ := h v (List.mem_cons_self ..)
    obtain ⟨t, rfl⟩ := Value.isStrOf_shape e
    exact ⟨k :: ks, .cons k t hk⟩
theorem strs_mem : ∀ {vs : List Value} {ks : List Str}, StrsAre vs ks → ∀ k, k ∈ ks ↔ ∃ v ∈ vs, Value.isStrOf k v = true
  | _, _, .nil, k => ⟨nofun, fun ⟨_, h, _⟩ => nomatch h⟩
  | _, _, .cons y t h, k => by
    have ih := strs_mem h k
    rw [List.mem_cons, ih]
    constructor
    · rintro (rfl | ⟨v, h1, h2⟩)
      · exact ⟨_, List.mem_cons_self .., beq_self_eq_true _⟩
      · exact ⟨v, List.mem_cons_of_mem _ h1, h2⟩
    · rintro ⟨v, h1, h2⟩
      rcases List.mem_cons.mp h1 with rfl | h1
      · exact .inl (eq_of_beq (show (y == k) = true from h2)).symm
      · exact .inr ⟨v, h1, h2⟩
theorem strs_len : ∀ {vs : List Value} {ks : List Str}, StrsAre vs ks → vs.length = ks.length
  | _, _, .nil => rfl
  | _, _, .cons _ _ h => by rw [List.length_cons, List.length_cons, strs_len h]
theorem sorted_ord {P : Program} {w : World} {A : Around} {E : Value → Shared → Prop} {s : Shared} {a : Addr} {S : Str → Bool} {n : Nat} {Q : Value → Shared → Prop} (H : SetS (PySem.strKind P w) s.heap a S n) (hh : A.handled = none) (hn : n < 64)
    (q : ∀ (s' : Shared) (p : Nat) (out : Array Value) (c : Nat) (ys : List Str), (∀ b o, s.heap.get? b = some o → s'.heap.get? b = some o) → s'.gens = s.gens → s'.os = s.os → s.heap.objs.size ≤ p → s'.heap.get? p = some (seqObj "list" out c) → StrsAre out.toList ys → sortedS ys = true → (∀ k, k ∈ ys ↔ S k = true) → ys.length = n → Q (.ref p) s') :
    wpAny (model P w) A (call (.builtin "sorted") [.ref a]) Q E s := by
  obtain ⟨o, es, ep, t, ho, hx, hd, he, hS, hb, hf, hz, hr, hl⟩ := H
  refine Calls.call_function_entry kind_sorted plain_sorted entry_sorted (args_sorted1 _) ?_
  unfold Builtin.sorted
  refine wpAny_bind (wpAny_of_eq (show checkCount "sorted" 1 1 [Value.ref a].length = pure () from rfl) ?_)
  refine wpAny_bind (collect_set (by simp [hh]) ⟨o, ho, hx.1, hd⟩ hf hb hr hl fun s1 out k1 z1 g1 o1 pm => ?_)
  have hk : ∀ v ∈ out, ∃ k : Str, Value.isStrOf k v = true := fun v hv => by
    obtain ⟨e, h1, rfl⟩ := List.mem_map.mp (pm.mem_iff.mp hv)
    obtain ⟨⟨k, h2, _⟩, _⟩ := he e h1
    exact ⟨k, h2⟩
  obtain ⟨ks, sk⟩ := strs_ofE (P := P) (w := w) out hk
  have lo : out.length = n := by rw [pm.length_eq, List.length_map, ← hz]; simp
  have mem : ∀ k, k ∈ ks ↔ S k = true := fun k => by
    rw [strs_mem sk k, hS k]
    constructor
    · rintro ⟨v, h1, h2⟩
      obtain ⟨e, h3, rfl⟩ := List.mem_map.mp (pm.mem_iff.mp h1)
      exact ⟨e, h3, h2⟩
    · rintro ⟨e, h1, h2⟩
      exact ⟨e.2, pm.mem_iff.mpr (List.mem_map.mpr ⟨e, h1, rfl⟩), h2⟩
  refine wpAny_bind (wpAny_newList ?_ (by rw [lo]; exact Nat.le_trans (Nat.le_of_lt hn) (Nat.le_of_ble_eq_true rfl)))
  have at0 : (s1.heap.push (seqObj "list" out.toArray 0)).get? s1.heap.objs.size = some (seqObj "list" out.toArray 0) := Heap.get?_push_size _ rfl
  refine wpAny_bind (wpAny_holding ?_)
  refine wpAny_call_entry (T := "list") slot_list_sort ⟨_, at0, rfl⟩ entry_list_sort ?_ (args_list_sort _)
  refine list_sort_treeK strKind_oneLt at0 sk.keysOf (fun v₁ v₂ rest e => keyKind_strs (ss := ks) (by rw [← e]; exact sk)) (by rw [lo]; exact hn) fun st' pm2 sd => ⟨_, rfl, ?_⟩
  obtain ⟨ys, sy, py, so⟩ := sorted_out_str sk pm2 sd
  refine wpAny_pure ⟨_, rfl, ?_⟩
  obtain ⟨c, hc⟩ := sortedHeap_at (out := Array.map (fun x => x.snd) (arrOf st')) at0
  refine q _ s1.heap.objs.size _ c ys (fun b u hb => ?_) g1 o1 z1 hc sy so (fun k => py.mem_iff.trans (mem k)) (by rw [py.length_eq, ← strs_len sk, lo])
  have hb1 := k1 b u hb
  have lt := Heap.lt_size hb1
  show (sortedHeap _ _ _ _).get? b = some u
  rw [sortedHeap_old (Nat.ne_of_lt lt) (by rw [size_push']; exact Nat.lt_succ_of_lt lt)]
  exact Heap.get?_push_of_some _ hb1
end SO
end Fx

namespace Fx
open PySem PySem.Spec PyProof.Rows L2 Evl Lk
/-! ### lists of texts, each once -/
namespace SO
theorem nodup_le {l m : List Str} : l.Nodup → (∀ x ∈ l, x ∈ m) → l.length ≤ m.length := by
  induction l generalizing m with
  | nil => intros; exact Nat.zero_le _
  | cons x l ih =>
    intro nd h
    obtain ⟨hx, nd⟩ := List.nodup_cons.mp nd
    have hm := h x (List.mem_cons_self ..)
    have i := ih (m := m.erase x) nd fun y hy => (List.mem_erase_of_ne (fun e => hx (by rw [← e]; exact hy))).mpr (h y (List.mem_cons_of_mem _ hy))
    rw [List.length_erase_of_mem hm] at i
    have := List.length_pos_of_mem hm
    rw [List.length_cons]
    omega
theorem nodup_of_len {l m : List Str} : l.Nodup → (∀ x ∈ l, x ∈ m) → m.length ≤ l.length → m.Nodup := by
  induction l generalizing m with
  | nil =>
    intro _ _ h
    rw [List.eq_nil_of_length_eq_zero (Nat.le_zero.mp h)]
    exact List.nodup_nil
  | cons x l ih =>
    intro nd h hl
    obtain ⟨hx, nd'⟩ := List.nodup_cons.mp nd
    have hm := h x (List.mem_cons_self ..)
    have sub : ∀ y ∈ l, y ∈ m.erase x := fun y hy => (List.mem_erase_of_ne (fun e => hx (by rw [← e]; exact hy))).mpr (h y (List.mem_cons_of_mem _ hy))
    have hp := List.length_pos_of_mem hm
    have le : (m.erase x).length ≤ l.length := by rw [List.length_erase_of_mem hm]; rw [List.length_cons] at hl; omega
    have i := ih nd' sub le
    have no : x ∉ m.erase x := fun hx2 => by
      have := nodup_le (m := m.erase x) nd fun y hy => by
        rcases List.mem_cons.mp hy with rfl | hy
        · exact hx2
        · exact sub y hy
      rw [List.length_cons] at this
      omega
    exact (List.perm_cons_erase hm).nodup_iff.mpr (List.nodup_cons.mpr ⟨no, i⟩)
theorem met_mem {key : Nat → Str} : ∀ (i : Nat) (x : Str), x ∈ SS.met key i → ∃ j, j < i ∧ x = key j
  | 0, x, h => by cases h
  | i + 1, x, h => by
    unfold SS.met at h
    split at h
    · obtain ⟨j, h1, h2⟩ := met_mem i x h
      exact ⟨j, by omega, h2⟩
    · rcases List.mem_append.mp h with h | h
      · obtain ⟨j, h1, h2⟩ := met_mem i x h
        exact ⟨j, by omega, h2⟩
      · exact ⟨i, by omega, List.mem_singleton.mp h⟩
theorem mem_met {key : Nat → Str} : ∀ (i j : Nat), j < i → key j ∈ SS.met key i
  | i + 1, j, h => by
    unfold SS.met
    rcases Nat.lt_or_ge j i with l | l
    · have := mem_met (key := key) i j l
      split
      · exact this
      · exact List.mem_append_left _ this
    · obtain rfl : j = i := by omega
      split
      · rename_i h2
        obtain ⟨a, ha, e⟩ := List.any_eq_true.mp h2
        rw [← eq_of_beq e]
        exact ha
      · exact List.mem_append_right _ (List.mem_singleton.mpr rfl)
theorem met_nodup {key : Nat → Str} : ∀ i : Nat, (SS.met key i).Nodup
  | 0 => List.nodup_nil
  | i + 1 => by
    unfold SS.met
    split
    · exact met_nodup i
    · rename_i h
      refine List.nodup_append.mpr ⟨met_nodup i, List.pairwise_singleton _ _, fun a ha b hb e => h ?_⟩
      rw [List.mem_singleton.mp hb] at e
      subst e
      exact List.any_eq_true.mpr ⟨_, ha, beq_self_eq_true _⟩
theorem met_iff {xs : List Str} {k : Str} : k ∈ SS.met (fun i => xs.getD i Str.empty) xs.length ↔ k ∈ xs := by
  constructor
  · intro h
    obtain ⟨j, h1, rfl⟩ := met_mem _ _ h
    rw [List.getD_eq_getElem?_getD, List.getElem?_eq_getElem h1]
    exact List.getElem_mem h1
  · intro h
    obtain ⟨j, h1, rfl⟩ := List.getElem_of_mem h
    have := mem_met (key := fun i => xs.getD i Str.empty) xs.length j h1
    rw [List.getD_eq_getElem?_getD, List.getElem?_eq_getElem h1] at this
    exact this
end SO
/-! ### sorted(set(xs)), xs a list of texts -/
def tSortedSets (K : PySem.W.Frag) (ta : TE) : TE := fun σ H Q => ta σ H fun x H1 => ∃ l, ∃ xs : List Str, x = .ref l ∧ SqL K H1 l (xs.map V.str) ∧ dst xs < 64 ∧ xs.length ≤ 4000 ∧ ∀ (ys : List Str) (p : Addr), ys.Nodup → sortedS ys = true → (∀ y, y ∈ ys ↔ y ∈ xs) → H1 p = none → Q (.ref p) (upd H1 p (.lst (ys.map V.str)))
section
variable {X : Cx} {G : Gx} {w : WE}
theorem pe_sortedSets {a : Expr} {ta : TE} {p p2 q pos : Pos} (hc : X.calm = true) (hg : Gl X "sorted") (hm : X.mg "sorted" = none) (hg2 : Gl X "set") (hm2 : X.mg "set" = none) (ha : PE X a ta)
    (na : starEach [a] X.env = (false, eval a X.env) :: starEach [] X.env := by rfl) : PE X (.Call (.Name "sorted" p) [.Call (.Name "set" p2) [a] [] q] [] pos) (tSortedSets X.K ta) := by
  refine ⟨fun pins s σ H Q I h => ?_⟩
  refine Call_ (ld_blt I hg hm boot_sorted ?_)
  refine PyProof.Rows.callWith_builtin1 (PyProof.Rows.args_cons ?_ rfl) rfl rfl
  refine Call_ (ld_blt I hg2 hm2 boot_set ?_)
  refine PyProof.Rows.callWith_type1 (PyProof.Rows.args_cons (thn (ha.run pins s σ H _ I h) fun v s1 ⟨x, H1, I1, r1, q1⟩ => PyProof.Rows.args_nil ?_) na) na rfl
  obtain ⟨l, xs, rfl, hq, h1, h2, q1⟩ := q1
  cases r1
  obtain ⟨its, r, pl, hz⟩ := I1.list hq
  have sa : StrsAre its xs := strsAre_of r
  have hl : its.toArray.size = xs.length := by rw [List.size_toArray, ← r.length, List.length_map]
  refine SS.call_set_ord (key := fun i => xs.getD i Str.empty) (I1.ok.hd hc) pl.isList (fun i v hv => SS.strs_at sa i v (by simpa using hv)) (by rw [hl]; unfold scanBound; omega) fun h' tk hS hk => ?_
  refine PyProof.Rows.args_nil ?_
  rw [hl] at hS
  have I2 : Inv X pins σ H1 { s1 with heap := h', toks := tk } := I1.kept fun b o e => hk b o (Heap.lt_size e) e
  refine SO.sorted_ord (s := { s1 with heap := h', toks := tk }) hS (I1.ok.hd hc) h1 fun s' p out c ys k g o z hp sy so mem len => ?_
  have fresh : H1 p = none := I2.hok.fresh z
  have nd : ys.Nodup := SO.nodup_of_len (SO.met_nodup _) (fun y hy => (mem y).mpr (List.any_eq_true.mpr ⟨y, hy, beq_self_eq_true _⟩)) (Nat.le_of_eq len)
  have mm : ∀ y, y ∈ ys ↔ y ∈ xs := fun y => (mem y).trans (Iff.trans ⟨fun h => by
    obtain ⟨z, h1, h2⟩ := List.any_eq_true.mp h
    rw [← eq_of_beq h2]
    exact h1, fun h => List.any_eq_true.mpr ⟨y, h, beq_self_eq_true _⟩⟩ SO.met_iff)
  obtain ⟨h2', g2, d2, t2, o2⟩ := s'
  dsimp only at g o hp k z
  subst g o
  refine ⟨.ref p, _, ?_, rfl, q1 ys p nd so mm fresh⟩
  have ob : ObjOk X.prog X.w (upd H1 p (.lst (ys.map V.str))) h2' p (.lst (ys.map V.str)) := ⟨by rw [List.length_map, len]; exact Nat.le_trans (Nat.le_of_lt h1) (Nat.le_of_ble_eq_true rfl), out.toList, c, vals_of_strs sy, hp⟩
  exact Inv.call (s := { s1 with heap := h', toks := tk }) (ch := []) I2 (Un.laid k z fresh) (I2.hok.laid k z ob) I2.bare fun b hb => nomatch hb
def wSortedSets (w : WE) : WE := fun env Q => w env fun r e => ∃ xs : List Str, r = .f (.lst (xs.map D.str)) ∧ dst xs < 64 ∧ xs.length ≤ 4000 ∧ ∀ ys : List Str, ys.Nodup → sortedS ys = true → (∀ y, y ∈ ys ↔ y ∈ xs) → Q (.f (.lst (ys.map D.str))) e
theorem ge_sortedSets {a : Expr} {p p2 q pos : Pos} (hc : X.calm = true) (hg : Gl X "sorted") (hm : X.mg "sorted" = none) (hg2 : Gl X "set") (hm2 : X.mg "set" = none) (ha : GE X G a w) (hK : X.K = G.K := by rfl)
    (na : starEach [a] X.env = (false, eval a X.env) :: starEach [] X.env := by rfl) : GE X G (.Call (.Name "sorted" p) [.Call (.Name "set" p2) [a] [] q] [] pos) (wSortedSets w) := by
  refine ⟨pe_imp (pe_sortedSets hc hg hm hg2 hm2 ha.pe na) fun σ H Q ⟨T, env, F, r, q⟩ => ⟨T, env, F, r, ha.mono _ _ _ (fun s e ⟨xs, hs, h1, h2, q⟩ x T1 H1 F1 f1 a1 z1 => ?_) q⟩, fun env Q Q' i q => ha.mono _ _ _ (fun s e ⟨xs, hs, h1, h2, q⟩ => ⟨xs, hs, h1, h2, fun ys a b c => i _ _ (q ys a b c)⟩) q⟩
  subst hs
  obtain ⟨p, vs, rfl, l, f⟩ := z1.rel.cz (d := .lst (xs.map D.str)) rfl
  rw [fz_strs f] at l
  exact ⟨p, xs, rfl, by rw [hK]; exact l, h1, h2, fun ys p2 nd so mm np => q ys nd so mm (.ref p2) T1 _ F1 [] (a1.trans r.trk (Att.ex a1.re (Ex.new np))) (res_f (fz_new_l a1.re.trk np (fzl_strs ys)))⟩
theorem x_sortedSets {env : Env} {Q : Sl → Env → Prop} (h : w env fun r e => ∃ xs : List Str, r = .f (.lst (xs.map D.str)) ∧ dst xs < 64 ∧ xs.length ≤ 4000 ∧ ∀ ys : List Str, ys.Nodup → sortedS ys = true → (∀ y, y ∈ ys ↔ y ∈ xs) → Q (.f (.lst (ys.map D.str))) e) : wSortedSets w env Q := h
end
end Fx

namespace Fx
open PySem PySem.Spec PyProof.Rows L2 Evl Lk
/-! ### a tuple, a text n times -/
section
variable {X : Cx} {G : Gx}
end
end Fx

namespace Fx
open PySem PySem.Spec PyProof.Rows L2 Evl Lk
/-! ### a list, a text any number of times -/
section
variable {X : Cx} {G : Gx}
end
end Fx

/-! an own exception class called with a keyword -/
namespace Fx
namespace KwX
open PySem PySem.Spec L2 PyProof.Rows
section
variable {M : Model} {A : Around} {E : Value → Shared → Prop} {h : Heap} {g : Array GenState} {d : Drawn} {t : Nat} {os : OsState} {nm q : Str} {C N : Addr} {bs bm bmB : List Value} {hdct : Bool} {sn : List Str} {sub : List Value} {ab : Bool} {col : Option Bool} {dd : Option Addr}
  {k0 k1 k2 k3 k5 : Option Value} {B newId initId : String}
end
end KwX
end Fx
namespace PySem
namespace RowX
open PySem.W PySem.Calls PyProof.Rows PySem.HandSPX
section
variable {prog : Program} {w : World} {A : Around} {E : Value → Shared → Prop} {R : Result → Shared → Prop} {s : Shared} {K : Frag} {mg mb : Str → Option Value} {x : Str} {C : Addr}
end
end RowX
end PySem

/-! own exceptions as values: C(text), C(n) with a row, C(row=n) -/
namespace Fx
open PySem PySem.Spec PyProof.Rows L2 Evl Lk
section
variable {X : Cx} {G : Gx} {x : Str} {C : Addr} {e : Expr} {w : WE} {ta : TE} {p p2 pos : Pos} {k : Nat}
end
end Fx

/-! what the top has written of classes that are kin -/
namespace Fx
open PySem PySem.Spec PyProof.Rows L2 Evl Lk
end Fx

/-! dicts: d[k] = v at a slot that owns a dict of values; d[k]; sorted(d) -/
namespace Fx
open PySem PySem.Spec PyProof.Rows L2 Evl Lk
/-- a dict of values, as an owned thing, as a value -/
def dicO (l : List (Key × D)) : O := .dic (l.map (·.1)) (l.map fun p => O.f p.2)
def dicD (l : List (Key × D)) : D := .dic (l.map (·.1)) (l.map (·.2))
inductive Zp (K : PySem.W.Frag) (H : Hp) : List (Key × V) → List (Key × D) → Prop
  | nil : Zp K H [] []
  | cons {k : Key} {v : V} {d : D} {kvs : List (Key × V)} {l : List (Key × D)} : Fz K H v d → Zp K H kvs l → Zp K H ((k, v) :: kvs) ((k, d) :: l)
section
variable {K : PySem.W.Frag} {H : Hp}
theorem zp_of : ∀ {l : List (Key × D)} {vs : List V}, FzL K H vs (l.map (·.2)) → Zp K H ((l.map (·.1)).zip vs) l
  | [], _, h => by cases h; exact .nil
  | (k, d) :: l, _, h => by
    cases h with
    | cons a b => exact .cons a (zp_of b)
theorem Zp.fst {kvs : List (Key × V)} {l : List (Key × D)} (h : Zp K H kvs l) : kvs.map (·.1) = l.map (·.1) := by
  induction h with
  | nil => rfl
  | cons a b ih => rw [List.map_cons, List.map_cons, ih]
end
theorem Zp.length {K : PySem.W.Frag} {H : Hp} {kvs : List (Key × V)} {l : List (Key × D)} (h : Zp K H kvs l) : kvs.length = l.length := by
  have := congrArg List.length h.fst
  rw [List.length_map, List.length_map] at this
  exact this
section
variable {X : Cx} {G : Gx} {o i value : Expr} {wv wk : WE} {pos pos' : Pos} {j : Nat}
end
end Fx

/-! dict values: d[k], sorted(d) -/
namespace Fx
open PySem PySem.Spec PyProof.Rows L2 Evl Lk
def getP {α : Type} (l : List (Key × α)) (k : Key) : Option α := (l.find? fun kv => decide (kv.1 = k)).map (·.2)
section
variable {K : PySem.W.Frag} {H : Hp}
theorem Zp.get {kvs : List (Key × V)} {l : List (Key × D)} (h : Zp K H kvs l) {k : Key} {d : D} (e : getP l k = some d) : ∃ v, valV kvs k = some v ∧ Fz K H v d := by
  induction h with
  | nil => cases e
  | cons a b ih =>
    rename_i k0 v0 d0 kvs l
    by_cases c : k0 = k
    · have e1 : getP ((k0, d0) :: l) k = some d0 := by simp [getP, List.find?_cons, c]
      rw [e1] at e
      cases e
      exact ⟨v0, valV_pos c, a⟩
    · have e1 : getP ((k0, d0) :: l) k = getP l k := by simp [getP, List.find?_cons, c]
      rw [e1] at e
      obtain ⟨v, h1, h2⟩ := ih e
      exact ⟨v, (valV_neg c).trans h1, h2⟩
theorem fz_dicD {l : List (Key × D)} {v : V} (h : Fz K H v (dicD l)) : ∃ a kvs, v = .ref a ∧ Rd H a (.dK kvs) ∧ Zp K H kvs l := by
  have h : Fz K H v (.dic (l.map (·.1)) (l.map (·.2))) := h
  cases h with
  | dic r hl f => exact ⟨_, _, rfl, r, zp_of f⟩
end
theorem rd_un {T : Addr → Prop} {H : Hp} {a : Addr} {o : HO} (l : Rd (hid T H) a o) : Rd H a o := rd_hid l
def wDIx (w1 w2 : WE) : WE := fun env Q => w1 env fun r e => ∃ l, r = .f (dicD l) ∧ w2 e fun r2 e2 => ∃ k d, r2 = .f (dK k) ∧ getP l k = some d ∧ Q (.f d) e2
section
variable {X : Cx} {G : Gx} {o i e : Expr} {w w1 w2 : WE} {pos p : Pos}
theorem ge_dix (hu : X.A.units + 1 < cLine) (ho : GE X G o w1) (hi : GE X G i w2) (hs : NoSl i) : GE X G (.Subscript o i pos) (wDIx w1 w2) := by
  refine ⟨pe_imp (pe_dget hu ho.pe hi.pe hs) fun σ H Q ⟨T, env, F, r, q⟩ => ⟨T, env, F, r, ho.mono _ _ _ (fun s e ⟨l, hs, q⟩ x T1 H1 F1 f1 a1 z1 => ?_) q⟩, fun env Q Q' i q => ho.mono _ _ _ (fun s e ⟨l, hs, q⟩ => ⟨l, hs, hi.mono _ _ _ (fun s2 e2 ⟨k, d, h1, h2, q⟩ => ⟨k, d, h1, h2, i _ _ q⟩) q⟩) q⟩
  subst hs
  refine ⟨T1, e, F1, a1.re, hi.mono _ _ _ (fun s2 e2 ⟨k, d, h1, h2, q⟩ y T2 H2 F2 f2 a2 z2 => ?_) q⟩
  subst h1
  have ey := fz_dK z2.rel.1
  subst ey
  obtain ⟨a, kvs, rfl, rd, zp⟩ := fz_dicD (Fz.att a1.re a2 z1.rel.1)
  obtain ⟨v, g1, g2⟩ := zp.get h2
  exact ⟨a, v, rfl, .inl ⟨_, k, rd_un rd, rfl, g1.symm⟩, q _ T2 H2 F2 [] (a1.trans r.trk a2) (res_f g2)⟩
/-- sorted(d), its keys texts: an owned list -/
def wSortedD (w : WE) : WE := fun env Q => w env fun r e => ∃ (l : List (Key × D)) (xs : List Str), r = .f (dicD l) ∧ l.map (·.1) = xs.map Sum.inr ∧ xs.length < 64 ∧ ∀ ys : List Str, ys.Perm xs → sortedS ys = true → Q (.own (.lst (ys.map D.str))) e
theorem ge_sortedD (hc : X.calm = true) (hg : Gl X "sorted") (hm : X.mg "sorted" = none) (he : GE X G e w) (hst : starEach [e] X.env = (false, eval e X.env) :: starEach [] X.env := by rfl) : GE X G (.Call (.Name "sorted" p) [e] [] pos) (wSortedD w) := by
  refine ⟨pe_imp (pe_callB (call_sortedD hc) hg hm rfl (pa_cons he.pe pa_nil hst) (by decide) (by decide) hst rfl) fun σ H Q ⟨T, env, F, r, q⟩ => ?_, fun env Q Q' i q => he.mono _ _ _ (fun s e ⟨l, xs, h1, h2, h3, q⟩ => ⟨l, xs, h1, h2, h3, fun ys a b => i _ _ (q ys a b)⟩) q⟩
  refine ⟨T, env, F, r, he.mono _ _ _ (fun s e ⟨l, xs, h1, h2, h3, q⟩ x T1 H1 F1 f1 a1 z1 => ?_) q⟩
  subst h1
  obtain ⟨a, kvs, rfl, rd, zp⟩ := fz_dicD z1.rel.1
  refine ⟨a, kvs, xs, rfl, rd_un rd, zp.fst.trans h2, h3, fun ys p pm so np => ?_⟩
  exact q ys pm so _ _ _ F1 [p] (a1.trans r.trk (att_new a1.re np)) (res_trans r.trk a1 (own_new a1.re np (.lst (.inr rfl) upd_same (fzl_strs ys))))
end
end Fx

/-! {} as an owned dict; a starred element of a display -/
namespace Fx
open PySem PySem.Spec PyProof.Rows L2 Evl Lk
section
variable {X : Cx} {G : Gx}
variable {e : Expr} {es : List Expr} {w : WE} {wr : WAD} {p : Pos}
end
end Fx

/-! walks of dicts -/
namespace Fx
open PySem PySem.Spec PyProof.Rows L2 Evl Lk
theorem u1 {k : Nat} {A : Around} (hr : Room k A) : A.units + 1 < cLine := by have := hr.un; omega
section
variable {env : Env} {Q : Sl → Env → Prop} {w w1 w2 wv wk : WE} {wr : WAD} {D0 : WEnds} {i : Nat}
theorem x_dix (h : w1 env fun r e => ∃ l, r = .f (dicD l) ∧ w2 e fun r2 e2 => ∃ k d, r2 = .f (dK k) ∧ getP l k = some d ∧ Q (.f d) e2) : wDIx w1 w2 env Q := h
theorem x_sortedD (h : w env fun r e => ∃ (l : List (Key × D)) (xs : List Str), r = .f (dicD l) ∧ l.map (·.1) = xs.map Sum.inr ∧ xs.length < 64 ∧ ∀ ys : List Str, ys.Perm xs → sortedS ys = true → Q (.own (.lst (ys.map D.str))) e) : wSortedD w env Q := h
theorem fds_fs : ∀ l : List (Key × D), O.fds (l.map fun p => O.f p.2) = some (l.map (·.2))
  | [] => rfl
  | p :: l => by
    have h := fds_fs l
    rw [List.map_cons, List.map_cons]
    unfold O.fds
    rw [h]
    rfl
theorem cd_dicO (l : List (Key × D)) : (dicO l).cd = some (dicD l) := by
  show (O.fds _).map _ = _
  rw [fds_fs]
  rfl
end
end Fx

/-! defs that are called where no guard of repr stands -/
namespace L2
open PySem PySem.Spec PyProof.Rows
section
variable {P : Program} {w : World} {K : PySem.W.Frag} {mg : Str → Option Value} {base : Heap} {N ps : List Str} {qual : Str} {scope : Scope} {f : Addr} {A : Around} {outer : List Env} {s s1 : Shared} {H : Hp} {E : XK} {us : List Value} {vs : List V}
end
section
variable {X : Cx} {x : Str} {p pos : Pos} {k j : Nat} {sp : Sp} {e : Expr} {es : List Expr} {ta : TA}
end
end L2
namespace Fx
open PySem PySem.Spec PyProof.Rows L2 Evl Lk
/-! ### where no guard stands -/
section
variable {P : Program} {w : World} {K : PySem.W.Frag} {mg : Str → Option Value} {base : Heap} {x q : Str} {st : Stmt} {N ps : List Str} {k : Nat} {tabs : List Addr}
end
section
variable {X : Cx} {G : Gx} {e : Expr} {es : List Expr} {wd : WAD} {x : Str} {k j : Nat} {tabs : List Addr} {p pos : Pos} {W : WFn}
end
end Fx

namespace Lk
open PySem PySem.Spec PyProof.Rows L2 Evl
/-! ### the law's end, where no guard stands -/
section
variable {P : Program} {w : World} {K : PySem.W.Frag} {mg mb : Str → Option Value}
end
end Lk
namespace Fx
open PySem PySem.Spec PyProof.Rows L2 Evl Lk
end Fx

/-! repr of a dict of values -/
namespace Fx
open PySem PySem.Spec PyProof.Rows L2 Evl Lk
section
variable {X : Cx} {pins : List (Addr × Obj)} {σ : L2.St} {H : Hp} {s : Shared} {T : Addr → Prop}
end
section
variable {X : Cx} {G : Gx} {e : Expr} {w : WE} {p pos : Pos}
end
end Fx

/-! texts compared, whatever they hold -/
namespace Fx
open PySem PySem.Spec PyProof.Rows L2 Evl Lk
section
variable {X : Cx} {G : Gx}
end
end Fx

/-! str of a tuple, repr of a tuple or a list, where no guard stands -/
namespace Fx
open PySem PySem.Spec PyProof.Rows L2 Evl Lk
section
variable {X : Cx} {G : Gx}
end
end Fx

/-! k in d, k not in d, d a dict of values -/
namespace Fx
open PySem PySem.Spec PyProof.Rows L2 Evl Lk
theorem Zp.get? {K : PySem.W.Frag} {H : Hp} {kvs : List (Key × V)} {l : List (Key × D)} (h : Zp K H kvs l) (k : Key) : (valV kvs k).isSome = (getP l k).isSome := by
  induction h with
  | nil => rfl
  | cons a b ih =>
    rename_i k0 v0 d0 kvs l
    by_cases c : k0 = k
    · have e1 : getP ((k0, d0) :: l) k = some d0 := by simp [getP, List.find?_cons, c]
      rw [e1, show valV ((k0, v0) :: kvs) k = some v0 from valV_pos c]
      rfl
    · have e1 : getP ((k0, d0) :: l) k = getP l k := by simp [getP, List.find?_cons, c]
      rw [e1, show valV ((k0, v0) :: kvs) k = valV kvs k from valV_neg c]
      exact ih
def dInD (neg : Bool) : Op2 := fun a b Q => ∃ k l, a = dK k ∧ b = dicD l ∧ Q (.bl (if neg = true then !(getP l k).isSome else (getP l k).isSome))
section
variable {X : Cx} {G : Gx}
theorem cz_dicD {K : PySem.W.Frag} {T : Addr → Prop} {H : Hp} {v : V} {l : List (Key × D)} (h : Cz K T H v (dicD l)) : ∃ a kvs, v = .ref a ∧ Rd H a (.dK kvs) ∧ Zp K H kvs l := fz_dicD h.fz
theorem cz_dK {K : PySem.W.Frag} {T : Addr → Prop} {H : Hp} {v : V} {k : Key} (h : Cz K T H v (dK k)) : v = kV k := fz_dK h.fz
theorem opx_ninD (hu : X.A.units + 1 < cLine) : OpX X G (compareOp .NotIn) (dInD true) := by
  refine ⟨fun pins s σ H x y v u Q I rx ry ⟨T, d1, d2, t, c1, c2, k, l, h1, h2, q⟩ => ?_, fun a b Q Q' i ⟨k, l, h1, h2, q⟩ => ⟨k, l, h1, h2, i _ q⟩⟩
  subst h1 h2
  obtain rfl := cz_dK c1
  obtain ⟨a, kvs, rfl, rd, zp⟩ := cz_dicD c2
  cases ry
  have q : ∀ v H', Ex H H' → Fz G.K (hid T H') v (.bl (!(getP l k).isSome)) → Q v H' := q
  rw [← zp.get? k] at q
  exact d_notIn hu I (.inl ⟨_, k, rd, rfl, rfl⟩) rx fun s3 I3 => ⟨.bl _, H, I3, rfl, q _ H (Ex.refl H) (.bl _)⟩
theorem x_ninD {k : Key} {l : List (Key × D)} {Q : D → Prop} (h : Q (.bl (!(getP l k).isSome))) : dInD true (dK k) (dicD l) Q := ⟨k, l, rfl, rfl, h⟩
end
end Fx

/-! dict(list of pairs) -/
namespace Fx
open PySem PySem.Spec PyProof.Rows L2 Evl Lk
section
variable {K : PySem.W.Frag} {H : Hp}
end
section
variable {X : Cx} {G : Gx} {e : Expr} {w : WE} {p pos : Pos}
end
end Fx

/-! min, max, sum of a list of whole numbers; abs -/
namespace Fx
open PySem PySem.Spec PyProof.Rows L2 Evl Lk
theorem fz_intsV {K : PySem.W.Frag} {H : Hp} : ∀ {ns : List Int} {vs : List V}, FzL K H vs (ns.map D.int) → vs = ns.map V.int
  | [], _, h => by cases h; rfl
  | n :: ns, _, h => by
    cases h with
    | cons a b =>
      rw [fz_intsV b]
      cases a
      rfl
def cMinL : OpC
  | [.lst ds], Q => ∃ ns : List Int, ds = ns.map D.int ∧ 0 < ns.length ∧ ∀ m, m ∈ ns → (∀ y, y ∈ ns → m ≤ y) → Q (.int m)
  | _, _ => False
def cMaxL : OpC
  | [.lst ds], Q => ∃ ns : List Int, ds = ns.map D.int ∧ 0 < ns.length ∧ ∀ m, m ∈ ns → (∀ y, y ∈ ns → y ≤ m) → Q (.int m)
  | _, _ => False
section
variable {X : Cx} {G : Gx}
theorem cax_minL (hc : X.calm = true) (hK : X.K = G.K := by rfl) : CaX X G (.builtin "min") cMinL := by
  refine ⟨fun pins s σ H xs us Q I rv ⟨T, ds, t, c, q⟩ => ?_, fun a Q Q' i q => ?_⟩
  · unfold cMinL at q
    split at q
    · obtain ⟨ns, e, h0, q⟩ := q
      subst e
      obtain ⟨v, rfl, cv⟩ := cz1 c
      obtain ⟨a, vs, rfl, l, f⟩ := cv
      rw [fz_intsV f] at l
      exact cr_min hc pins s σ H _ us Q I rv ⟨a, ns, rfl, by rw [hK]; exact l, h0, fun m h1 h2 => q m h1 h2 _ H (Ex.refl H) (.int _)⟩
    · exact q.elim
  · unfold cMinL at q ⊢
    split at q
    · obtain ⟨ns, e, h0, q⟩ := q
      exact ⟨ns, e, h0, fun m h1 h2 => i _ (q m h1 h2)⟩
    · exact q.elim
theorem cax_maxL (hc : X.calm = true) (hK : X.K = G.K := by rfl) : CaX X G (.builtin "max") cMaxL := by
  refine ⟨fun pins s σ H xs us Q I rv ⟨T, ds, t, c, q⟩ => ?_, fun a Q Q' i q => ?_⟩
  · unfold cMaxL at q
    split at q
    · obtain ⟨ns, e, h0, q⟩ := q
      subst e
      obtain ⟨v, rfl, cv⟩ := cz1 c
      obtain ⟨a, vs, rfl, l, f⟩ := cv
      rw [fz_intsV f] at l
      exact cr_max hc pins s σ H _ us Q I rv ⟨a, ns, rfl, by rw [hK]; exact l, h0, fun m h1 h2 => q m h1 h2 _ H (Ex.refl H) (.int _)⟩
    · exact q.elim
  · unfold cMaxL at q ⊢
    split at q
    · obtain ⟨ns, e, h0, q⟩ := q
      exact ⟨ns, e, h0, fun m h1 h2 => i _ (q m h1 h2)⟩
    · exact q.elim
end
end Fx

namespace Fx
open PySem PySem.Spec PyProof.Rows L2 Evl Lk NdefX

/-! ### all, any of a generator expression whose elements may call defs -/
/-- a captured slot: what is owned is looked at -/
def capE (e : Env) (j : Nat) : Option Sl := match e[j]? with
  | some (some (.own o)) => some (.vw o)
  | some s => s
  | none => none
def qAll (kp : Bool) (ds : List D) (pb : D → Bool) : Bool := match kp with
  | true => ds.all pb
  | false => ds.any pb
def wAllX (wi : WI) (cs : List Nat) (kp : Bool) (w : WE) : WE := fun env Q => wi env fun ds e0 => ∃ pb : D → Bool, (∀ d ∈ ds, w (none :: some (.f d) :: cs.map (capE e0)) fun r _ => r = .f (.bl (pb d))) ∧ Q (.f (.bl (qAll kp ds pb))) e0
/-- the element's own run: it changes nothing -/
def gIn (G : Gx) (T : Addr → Prop) (H : Hp) (σ : L2.St) : Gx := ⟨G.K, G.tabs, T, H, fun _ => False, σ, fun _ => false, fun _ _ => False, fun _ => none⟩
def tIn (G : Gx) (w : WE) : TE := fun σ H Q => ∃ T0 H0 σ0, tW (gIn G T0 H0 σ0) w σ H Q
theorem capE_get {e : Env} {j : Nat} {s : Sl} (h : capE e j = some s) : (∀ o, s ≠ .own o) ∧ ∃ t, e[j]? = some (some t) ∧ ((∃ o, t = .own o ∧ s = .vw o) ∨ ((∀ o, t ≠ .own o) ∧ t = s)) := by
  unfold capE at h
  split at h
  · rename_i o ho
    cases h
    exact ⟨nofun, _, ho, .inl ⟨o, rfl, rfl⟩⟩
  · rename_i t hn ho
    subst h
    exact ⟨fun o z => hn o (by rw [z]), _, ho, .inr ⟨fun o z => hn o (by rw [z]), rfl⟩⟩
  · cases h
section
variable {X : Cx} {G : Gx} {e : Expr} {wi : WI} {cs : List Nat} {kp : Bool} {w : WE}
theorem mono_allX (mi : MonoI wi) : MonoE (wAllX wi cs kp w) := fun env Q Q' i q => mi _ _ _ (fun ds e0 ⟨pb, h, q⟩ => ⟨pb, h, i _ _ q⟩) q
/-- the element's frame -/
theorem in_gen {T : Addr → Prop} {H : Hp} {σ : L2.St} {env : Env} {F : Nat → List Addr} {v : V} {d : D} (r : RE G T H σ env F) (fz : Fz G.K (hid T H) v d) :
    ∃ F', RE (gIn G T H ((gS σ cs).set 1 (some v))) T H ((gS σ cs).set 1 (some v)) (none :: some (.f d) :: cs.map (capE env)) F' := by
  have noOwn : ∀ i, ¬ IsOwn (none :: some (.f d) :: cs.map (capE env)) i := fun i ⟨o, h⟩ => by
    match i, h with
    | 0, h => cases h
    | 1, h => cases h
    | i + 2, h =>
      have h : (cs.map (capE env))[i]? = some (some (.own o)) := h
      rw [List.getElem?_map] at h
      cases ej : cs[i]? with
      | none => rw [ej] at h; cases h
      | some j =>
        rw [ej] at h
        exact (capE_get (Option.some.inj h)).1 o rfl
  refine ⟨fun k => match k with
    | 0 => []
    | 1 => []
    | k + 2 => match cs[k]? with
      | some j => match env[j]? with
        | some (some (.f _)) => []
        | _ => F j
      | none => [], r.trk, r.tab, fun i s h => ?_, fun i j _ h => absurd h (noOwn i), .refl r.trk, fun a ⟨i, h, _⟩ => absurd h (noOwn i), r.trk, nofun, by simp [gS], ex_none⟩
  match i, h with
  | 0, h => cases h
  | 1, h =>
    cases h
    exact ⟨v, rfl, fz, rfl⟩
  | i + 2, h =>
    have h : (cs.map (capE env))[i]? = some (some s) := h
    rw [List.getElem?_map] at h
    cases ej : cs[i]? with
    | none => rw [ej] at h; cases h
    | some j =>
      rw [ej] at h
      obtain ⟨no, t, ht, q⟩ := capE_get (Option.some.inj h)
      obtain ⟨u, h1, h2⟩ := r.slot j t ht
      refine ⟨u, ?_, ?_⟩
      · show (cs.map (slotAt σ))[i]? = some (some u)
        rw [List.getElem?_map, ej]
        show some (slotAt σ j) = _
        rw [slotAt_of h1]
      · show SlR _ T H s u (match cs[i]? with
          | some j => match env[j]? with
            | some (some (.f _)) => []
            | _ => F j
          | none => [])
        rw [ej]
        show SlR _ T H s u (match env[j]? with
            | some (some (.f _)) => []
            | _ => F j)
        rw [ht]
        rcases q with ⟨o, rfl, rfl⟩ | ⟨n, rfl⟩
        · exact h2
        · cases t with
          | f d' => exact ⟨h2.1, rfl⟩
          | own o => exact absurd rfl (n o)
          | vw o => exact h2
theorem allW (mi : MonoI wi) (mw : MonoE w) {P : Addr} (hP : P ∈ G.tabs) {σ : L2.St} {H : Hp} {Q : VK} (h : tW G (wAllX wi cs kp w) σ H Q) : tAllX P (tWI G wi) (tIn G w) cs kp σ H Q := by
  obtain ⟨T, env, F, r, q⟩ := h
  refine ⟨T, env, F, r, mi _ _ _ (fun ds e0 ⟨pb, he, q⟩ It T1 H1 F1 Bs a it b0 => ?_) q⟩
  refine ⟨(a.re.tab P hP).1, fun i m H' => m = ds.length - i ∧ i ≤ ds.length ∧ (∀ k d, k < i → ds[k]? = some d → pb d = kp) ∧ ∃ T', Att G σ T H env F T' H' e0 F1 ∧ Bs T' H', ⟨_, rfl, Nat.zero_le _, fun k d hk => absurd hk (Nat.not_lt_zero _), T1, a, b0⟩, ?_⟩
  rintro i m H' ⟨rfl, hi, hk, T', a', b'⟩
  by_cases hlt : i < ds.length
  · obtain ⟨go, yl⟩ := it.go i T' H' a'.re.trk b' hlt
    refine .inr ⟨go, fun v H2 y => ?_⟩
    obtain ⟨d, hd, ex, fz⟩ := yl v H2 y
    have a2 : Att G σ T H env F T' H2 e0 F1 := a'.trans r.trk (Att.ex a'.re ex)
    obtain ⟨F2, r2⟩ := in_gen (cs := cs) a2.re fz
    have b2 : Bs T' H2 := it.keep _ _ _ _ b' (hid_mono ex)
    refine ⟨T', H2, _, T', _, F2, r2, mw _ _ _ (fun s e3 hs v3 T3 H3 F3 fr a3 z3 => ?_) (he d (List.mem_of_getElem? hd))⟩
    subst hs
    have e3 : v3 = .bl (pb d) := bl_of z3.rel
    refine ⟨pb d, e3, ?_⟩
    -- back in the frame
    have nP : ∀ x, ¬ OwnP (none :: some (.f d) :: cs.map (capE e0)) F2 x := fun x hx => by
      have := r2.ow x hx
      rcases this with z | z
      · exact z
      · exact r2.trk x (r2.sub x hx) z
    have c3 : Chg T' H2 (fun _ => False) T3 H3 := a3.chg.weak fun x hx => nP x hx
    have x3 : Ex H2 H3 := c3.ex
    have a4 : Att G σ T' H2 e0 F1 T3 H3 e0 F1 := ⟨c3.weak fun _ hx => hx.elim, a2.re.chg c3 (fun _ hx => hx.elim) (fun _ hx => hx.elim) (fun _ _ _ _ hx => hx.elim), fun x hx => .inl hx, fun k o hk => ⟨hk, rfl⟩⟩
    have a5 := a2.trans r.trk a4
    by_cases hb : pb d = kp
    · rw [if_pos hb]
      refine ⟨ds.length - (i + 1), by omega, rfl, hlt, fun k d' hk' hd' => ?_, T3, a5, it.keep _ _ _ _ b2 (c3.hid fun _ hx => hx.elim)⟩
      by_cases e : k = i
      · rw [e, hd] at hd'
        cases hd'
        exact hb
      · exact hk k d' (by omega) hd'
    · rw [if_neg hb]
      have eq : qAll kp ds pb = !kp := by
        cases kp with
        | true =>
          have hb : pb d = false := by simpa using hb
          show ds.all pb = false
          rw [List.all_eq_false]
          exact ⟨d, List.mem_of_getElem? hd, by rw [hb]; decide⟩
        | false =>
          have hb : pb d = true := by simpa using hb
          show ds.any pb = true
          rw [List.any_eq_true]
          exact ⟨d, List.mem_of_getElem? hd, hb⟩
      rw [eq] at q
      exact q _ T3 H3 F1 [] a5 (res_f (.bl _))
  · have e : i = ds.length := by omega
    subst e
    refine .inl ⟨it.stop _ T' H' b' rfl, ?_⟩
    have eq : qAll kp ds pb = kp := by
      have al : ∀ d ∈ ds, pb d = kp := fun d hd => by
        obtain ⟨k, hkl, ek⟩ := List.getElem_of_mem hd
        exact hk k d hkl (by rw [List.getElem?_eq_getElem hkl, ek])
      cases kp with
      | true => exact List.all_eq_true.mpr al
      | false =>
        show ds.any pb = false
        rw [List.any_eq_false]
        intro d hd
        rw [al d hd]
        decide
    rw [eq] at q
    exact q _ T' H' F1 [] a' (res_f (.bl _))
/-- the element, in the generator's frame -/
abbrev GEX (X : Cx) (scope : Scope) (x : Str) (cs : List Nat) (k : Nat) (G : Gx) (elt : Expr) (w : WE) : Prop :=
  ∀ (s4 : Shared) (H1 : Hp) (C : Addr) (cl : List (Str × Addr)) (cd : Value) (A' : Around) (fp : List Addr) (pn : List (Addr × Obj)) (T0 : Addr → Prop) (H0 : Hp) (σ0 : L2.St), Room k A' → GE (gx X s4 H1 (genEnv scope cl C cd builtinsNs X.env) A' (gN X.N x cs) fp pn) (gIn G T0 H0 σ0) elt w
theorem elt_in {scope : Scope} {x : Str} {k : Nat} {elt : Expr} (h : GEX X scope x cs k G elt w) : EltX X scope x cs k elt (tIn G w) := fun s4 H1 C cl cd A' fp pn hr =>
  ⟨fun pins s σ H Q I ⟨T0, H0, σ0, q⟩ => (h s4 H1 C cl cd A' fp pn T0 H0 σ0 hr).pe.run pins s σ H Q I q⟩
theorem ge_allX {c P : Addr} {elt iter : Expr} {x : Str} {px p pos gpos : Pos} {scope : Scope} {k : Nat} (TB : GxR.TabB X.base X.mg c P) (hr : Room (k + 1) X.A) (hg : Gl X "all") (hm : X.mg "all" = none) (hcode : X.env.code = .ref c) (S : GxR.GenS X.env scope x)
    (hcs : CapOk X scope cs) (hnd : (gN X.N x cs).Nodup) (hi : GI X G (.Name x px) iter wi) (hel : GEX X scope x cs k G elt w) (hs : ∀ v, genFold iter X.env v = pure v) (hP : P ∈ G.tabs)
    (he : starEach [.GeneratorExp elt [⟨.Name x px, iter, [], 0⟩] scope gpos] X.env = (false, eval (.GeneratorExp elt [⟨.Name x px, iter, [], 0⟩] scope gpos) X.env) :: starEach [] X.env := by rfl) :
    GE X G (.Call (.Name "all" p) [.GeneratorExp elt [⟨.Name x px, iter, [], 0⟩] scope gpos] [] pos) (wAllX wi cs true w) :=
  ⟨pe_imp (pe_allX TB hr hg hm hcode S hcs hnd hi.pi (elt_in hel) hs he) fun σ H Q q => allW hi.mono (hel {} (fun _ => none) 0 [] .none X.A [] [] (fun _ => False) (fun _ => none) [] (hr.mono (Nat.le_succ _))).mono hP q, mono_allX hi.mono⟩
end
end Fx

/-! Fx61: a dict value is walked: while it is walked its object is known -/
namespace Lk
open PySem PySem.Spec PyProof.Rows L2 Evl
section
variable {X : Cx} {pins : List (Addr × Obj)} {σ : L2.St} {H : Hp} {s : Shared} {a : Addr} {kvs : List (Key × V)} {o : Obj}
theorem inv_freeze (I : Inv X pins σ H s) (h : H a = some (.dK kvs)) : ∃ o, Inv X pins σ (upd H a (.frz o (.dK kvs))) s := by
  have ok := I.hok a _ h
  obtain ⟨o, ho⟩ : ∃ o, s.heap.get? a = some o := by
    obtain ⟨_, _, _, _, o, _, _, e, _⟩ := ok
    exact ⟨o, e⟩
  have ne : ∀ b u, H b = some u → u ≠ .dK kvs → b ≠ a := fun b u e n z => by
    rw [z, h] at e
    cases e
    exact n rfl
  have nn : ∀ b, H b = none → b ≠ a := fun b e z => by rw [z, h] at e; cases e
  refine ⟨o, I.ok, I.os, I.bare, ⟨I.base.keep, I.base.slot, fun b ob q n hx => ?_, I.base.there, fun b xs e => ?_, fun b ob u e => ?_, fun b ps e => ?_⟩, I.loc, I.cell, ?_, fun x c e => ?_, fun p hp => ?_, fun b u e => ?_, I.len⟩
  · have e := I.base.free b ob q n hx
    rw [upd_ne (nn b e)]
    exact e
  · have e := I.base.tups b xs e
    rw [upd_ne (ne b _ e nofun)]
    exact e
  · have e := I.base.frzs b ob u e
    rw [upd_ne (ne b _ e nofun)]
    exact e
  · obtain ⟨more, e⟩ := I.base.tbls b ps e
    exact ⟨more, by rw [upd_ne (ne b _ e nofun)]; exact e⟩
  · rw [upd_ne (nn _ I.free)]
    exact I.free
  · rw [upd_ne (nn _ (I.freeC x c e))]
    exact I.freeC x c e
  · obtain ⟨h1, h2, h3⟩ := I.pin p hp
    exact ⟨h1, by rw [upd_ne (nn _ h2)]; exact h2, h3⟩
  · by_cases hb : b = a
    · rw [hb, upd_same] at e
      cases e
      rw [hb]
      refine ⟨ho, ok.stay (fun _ _ _ q => q) (fun b e => ?_) fun b xs e => ?_⟩
      · rw [upd_ne (ne b _ e nofun)]; exact e
      · rw [upd_ne (ne b _ e nofun)]; exact e
    · rw [upd_ne hb] at e
      refine (I.hok b u e).stay (fun _ _ _ q => q) (fun c e => ?_) fun c xs e => ?_
      · rw [upd_ne (ne c _ e nofun)]; exact e
      · rw [upd_ne (ne c _ e nofun)]; exact e
theorem inv_thaw (I : Inv X pins σ H s) (h : H a = some (.frz o (.dK kvs))) (n0 : ∀ ob u, X.H_0 a ≠ some (.frz ob u)) : Inv X pins σ (upd H a (.dK kvs)) s := by
  have ok : ObjOk X.prog X.w H s.heap a (.frz o (.dK kvs)) := I.hok a _ h
  have ne : ∀ b u, H b = some u → u ≠ .frz o (.dK kvs) → b ≠ a := fun b u e n z => by
    rw [z, h] at e
    cases e
    exact n rfl
  have nn : ∀ b, H b = none → b ≠ a := fun b e z => by rw [z, h] at e; cases e
  refine ⟨I.ok, I.os, I.bare, ⟨I.base.keep, I.base.slot, fun b ob q n hx => ?_, I.base.there, fun b xs e => ?_, fun b ob u e => ?_, fun b ps e => ?_⟩, I.loc, I.cell, ?_, fun x c e => ?_, fun p hp => ?_, fun b u e => ?_, I.len⟩
  · have e := I.base.free b ob q n hx
    rw [upd_ne (nn b e)]
    exact e
  · have e := I.base.tups b xs e
    rw [upd_ne (ne b _ e nofun)]
    exact e
  · have e' := I.base.frzs b ob u e
    have hb : b ≠ a := fun z => n0 ob u (by rw [← z]; exact e)
    rw [upd_ne hb]
    exact e'
  · obtain ⟨more, e⟩ := I.base.tbls b ps e
    exact ⟨more, by rw [upd_ne (ne b _ e nofun)]; exact e⟩
  · rw [upd_ne (nn _ I.free)]
    exact I.free
  · rw [upd_ne (nn _ (I.freeC x c e))]
    exact I.freeC x c e
  · obtain ⟨h1, h2, h3⟩ := I.pin p hp
    exact ⟨h1, by rw [upd_ne (nn _ h2)]; exact h2, h3⟩
  · by_cases hb : b = a
    · rw [hb, upd_same] at e
      cases e
      rw [hb]
      have ok2 : ObjOk X.prog X.w H s.heap a (.dK kvs) := ok.2
      refine ok2.stay (fun _ _ _ q => q) (fun b e => ?_) fun b xs e => ?_
      · rw [upd_ne (ne b _ e nofun)]; exact e
      · rw [upd_ne (ne b _ e nofun)]; exact e
    · rw [upd_ne hb] at e
      refine (I.hok b u e).stay (fun _ _ _ q => q) (fun c e => ?_) fun c xs e => ?_
      · rw [upd_ne (ne c _ e nofun)]; exact e
      · rw [upd_ne (ne c _ e nofun)]; exact e
/-- the dict at a is known while e runs -/
def tFz (a : Addr) (t : TE) : TE := fun σ H Q => ∃ kvs, H a = some (.dK kvs) ∧ ∀ o, t σ (upd H a (.frz o (.dK kvs))) fun v H' => H' a = some (.frz o (.dK kvs)) ∧ Q v (upd H' a (.dK kvs))
theorem pe_fz {e : Expr} {t : TE} (h : PE X e t) : PE X e (fun σ H Q => ∃ a, tFz a t σ H Q) := by
  refine ⟨fun pins s σ H Q I ⟨a, kvs, ha, q⟩ => ?_⟩
  obtain ⟨o, I2⟩ := inv_freeze I ha
  refine thn (h.run pins s σ _ _ I2 (q o)) fun v s' ⟨x, H', I', r, e, q⟩ => ⟨x, _, inv_thaw I' e fun ob u z => ?_, r, q⟩
  have := I.base.frzs a ob u z
  rw [ha] at this
  cases this
def tFzS (a : Addr) (t : TS) : TS := fun D σ H => ∃ kvs, H a = some (.dK kvs) ∧ ∀ o, t { nx := fun σ' H' => H' a = some (.frz o (.dK kvs)) ∧ D.nx σ' (upd H' a (.dK kvs)), rt := fun v H' => H' a = some (.frz o (.dK kvs)) ∧ D.rt v (upd H' a (.dK kvs)), bk := fun σ' H' => H' a = some (.frz o (.dK kvs)) ∧ D.bk σ' (upd H' a (.dK kvs)), ct := fun σ' H' => H' a = some (.frz o (.dK kvs)) ∧ D.ct σ' (upd H' a (.dK kvs)) } σ (upd H a (.frz o (.dK kvs)))
theorem ps_fz {st : Stmt} {t : TS} (h : PS X st t) : PS X st (fun D σ H => ∃ a, tFzS a t D σ H) := by
  refine ⟨fun pins s σ H D I ⟨a, kvs, ha, q⟩ => ?_⟩
  obtain ⟨o, I2⟩ := inv_freeze I ha
  have n0 : ∀ ob u, X.H_0 a ≠ some (.frz ob u) := fun ob u z => by
    have := I.base.frzs a ob u z
    rw [ha] at this
    cases this
  refine thn (h.run pins s σ _ _ I2 (q o)) fun f s' hf => ?_
  cases f with
  | next => obtain ⟨σ', H', I', e, q⟩ := hf; exact ⟨σ', _, inv_thaw I' e n0, q⟩
  | brk => obtain ⟨σ', H', I', e, q⟩ := hf; exact ⟨σ', _, inv_thaw I' e n0, q⟩
  | cont => obtain ⟨σ', H', I', e, q⟩ := hf; exact ⟨σ', _, inv_thaw I' e n0, q⟩
  | ret u => obtain ⟨v, σ', H', I', r, e, q⟩ := hf; exact ⟨v, σ', _, inv_thaw I' e n0, r, q⟩
end
end Lk

namespace Fx
open PySem PySem.Spec PyProof.Rows L2 Evl Lk

/-! ### a dict value while it is walked -/
def Sim (H H' : Hp) : Prop := ∀ b u, H b = some u → H' b = some u ∨ (∃ ob kvs, u = .dK kvs ∧ H' b = some (.frz ob (.dK kvs))) ∨ (∃ ob kvs, u = .frz ob (.dK kvs) ∧ H' b = some (.dK kvs))
section
variable {K : PySem.W.Frag} {T : Addr → Prop} {H H' : Hp} {a : Addr}
theorem sim_hid (s : Sim H H') : Sim (hid T H) (hid T H') := fun b u e => by
  obtain ⟨h, n⟩ := hid_some e
  rcases s b u h with z | ⟨ob, kvs, rfl, z⟩ | ⟨ob, kvs, rfl, z⟩
  · exact .inl (hid_of z n)
  · exact .inr (.inl ⟨ob, kvs, rfl, hid_of z n⟩)
  · exact .inr (.inr ⟨ob, kvs, rfl, hid_of z n⟩)
theorem sim_at {u : HO} (s : Sim H H') (h : H a = some u) (n1 : ∀ kvs, u ≠ .dK kvs) (n2 : ∀ ob kvs, u ≠ .frz ob (.dK kvs)) : H' a = some u := by
  rcases s a u h with z | ⟨ob, kvs, e, _⟩ | ⟨ob, kvs, e, _⟩
  · exact z
  · exact absurd e (n1 _)
  · exact absurd e (n2 _ _)
theorem rd_sim {u : HO} (s : Sim H H') (n1 : ∀ kvs, u ≠ .dK kvs) (n2 : ∀ ob kvs, u ≠ .frz ob (.dK kvs)) (h : Rd H a u) : Rd H' a u := by
  rcases h with h | ⟨o, h⟩
  · exact .inl (sim_at s h n1 n2)
  · refine .inr ⟨o, sim_at s h (fun _ e => by cases e) fun ob kvs e => ?_⟩
    cases e
    exact n1 _ rfl
theorem rd_simD {kvs : List (Key × V)} (s : Sim H H') (h : Rd H a (.dK kvs)) : Rd H' a (.dK kvs) := by
  rcases h with h | ⟨o, h⟩
  · rcases s a _ h with z | ⟨ob, k2, e, z⟩ | ⟨ob, k2, e, z⟩
    · exact .inl z
    · cases e; exact .inr ⟨ob, z⟩
    · cases e
  · rcases s a _ h with z | ⟨ob, k2, e, z⟩ | ⟨ob, k2, e, z⟩
    · exact .inr ⟨o, z⟩
    · cases e
    · cases e; exact .inl z
theorem sql_sim {xs : List V} (s : Sim H H') (h : SqL K H a xs) : SqL K H' a xs := by
  rcases h with h | h
  · exact .inl (rd_sim (u := .lst xs) s (fun _ e => by cases e) (fun _ _ e => by cases e) h)
  · exact .inr h
theorem sqt_sim {xs : List V} (s : Sim H H') (h : SqT K H a xs) : SqT K H' a xs := by
  rcases h with h | h
  · exact .inl (rd_sim (u := .tup xs) s (fun _ e => by cases e) (fun _ _ e => by cases e) h)
  · exact .inr h
theorem RowR.sim {d : Option Addr} (e : Sim H H') : ∀ {r : Option Int}, RowR H d r → RowR H' d r
  | none, h => h
  | some _, ⟨dd, h1, h2⟩ => ⟨dd, h1, sim_at e h2 (fun _ e => by cases e) (fun _ _ e => by cases e)⟩
mutual
theorem Fz.sim (e : Sim H H') : ∀ {d : D} {v : V}, Fz K H v d → Fz K H' v d
  | .non, _, h => by cases h; exact .non
  | .bl b, _, h => by cases h; exact .bl b
  | .int i, _, h => by cases h; exact .int i
  | .str x, _, h => by cases h; exact .str x
  | .ty (.bt n), _, h => by cases h; exact .ty n
  | .ty (.cls C), _, h => by cases h; exact .cls C
  | .ty (.exc C r), _, h => by cases h with | exc a b => exact .exc (sim_at e a (fun _ e => by cases e) (fun _ _ e => by cases e)) (b.sim e)
  | .lst ds, _, h => by cases h with | lst a b => exact .lst (sql_sim e a) (FzL.sim e b)
  | .tup ds, _, h => by cases h with | tup a b => exact .tup (sqt_sim e a) (FzL.sim e b)
  | .dic ks ds, _, h => by cases h with | dic a l b => exact .dic (rd_simD e a) l (FzL.sim e b)
theorem FzL.sim (e : Sim H H') : ∀ {ds : List D} {vs : List V}, FzL K H vs ds → FzL K H' vs ds
  | [], _, h => by cases h; exact .nil
  | d :: ds, _, h => by cases h with | cons a b => exact .cons (Fz.sim e a) (FzL.sim e b)
end
mutual
theorem Ow.sim (e : Sim (hid T H) (hid T H')) : ∀ {o : O} {v : V} {fp : List Addr}, (∀ a ∈ fp, T a → H' a = H a) → Ow K T H o v fp → Ow K T H' o v fp
  | .f d, _, _, _, h => by cases h with | f a => exact .f (a.sim e)
  | .lst ds, _, _, k, h => by cases h with | lst a b c => exact .lst a ((k _ (by simp) a).trans b) (c.sim e)
  | .dic ks os, _, _, k, h => by cases h with | dic a b l c n => exact .dic a ((k _ (by simp) a).trans b) l (OwL.sim e (fun x hx => k x (List.mem_cons_of_mem _ hx)) c) n
  | .ins C ns os, _, _, k, h => by cases h with | ins a b l c n => exact .ins a ((k _ (by simp) a).trans b) l (OwL.sim e (fun x hx => k x (List.mem_cons_of_mem _ hx)) c) n
theorem OwL.sim (e : Sim (hid T H) (hid T H')) : ∀ {os : List O} {vs : List V} {fp : List Addr}, (∀ a ∈ fp, T a → H' a = H a) → OwL K T H os vs fp → OwL K T H' os vs fp
  | [], _, _, _, h => by cases h; exact .nil
  | o :: os, _, _, k, h => by cases h with
    | cons a b d => exact .cons (Ow.sim e (fun x hx => k x (List.mem_append_left _ hx)) a) (OwL.sim e (fun x hx => k x (List.mem_append_right _ hx)) b) d
end
/-- while it is walked -/
def gZ (G : Gx) (T : Addr → Prop) (H : Hp) (P : Addr → Prop) (σ : L2.St) (i : Nat) : Gx := ⟨G.K, G.tabs, T, H, P, σ, fun j => (j == i) || G.prot j, fun _ _ => False, fun _ => none⟩
def FzAt (i : Nat) (T : Addr → Prop) (H : Hp) (P : Addr → Prop) (σ : L2.St) : Prop := ∃ a o kvs, σ[i]? = some (some (.ref a)) ∧ H a = some (.frz o (.dK kvs)) ∧ ¬ T a ∧ ¬ P a
structure Zw (T : Addr → Prop) (H Hz : Hp) (th : Hp → Hp) (a : Addr) (fo : HO) : Prop where
  at_ : Hz a = some fo
  nt : ¬ T a
  ha : H a ≠ none
  sim : Sim H Hz
  eq : ∀ b, b ≠ a → Hz b = H b
  thEq : ∀ H' b, b ≠ a → th H' b = H' b
  thSim : ∀ H', H' a = some fo → Sim H' (th H')
  thAt : ∀ H', H' a = some fo → th H' a = H a
theorem zw_id {fo : HO} (h : H a = some fo) (n : ¬ T a) : Zw T H H id a fo := ⟨h, n, by rw [h]; exact nofun, fun b u e => .inl e, fun _ _ => rfl, fun _ _ _ => rfl, fun _ _ _ _ e => .inl e, fun _ e => e.trans h.symm⟩
theorem zw_fz {kvs : List (Key × V)} {o : Obj} (h : H a = some (.dK kvs)) (n : ¬ T a) : Zw T H (upd H a (.frz o (.dK kvs))) (fun H' => upd H' a (.dK kvs)) a (.frz o (.dK kvs)) where
  at_ := upd_same
  nt := n
  ha := by rw [h]; exact nofun
  sim := fun b u e => by
    by_cases hb : b = a
    · rw [hb] at e ⊢
      rw [h] at e
      cases e
      exact .inr (.inl ⟨o, kvs, rfl, upd_same⟩)
    · exact .inl (by rw [upd_ne hb]; exact e)
  eq := fun b hb => upd_ne hb
  thEq := fun H' b hb => upd_ne hb
  thSim := fun H' e b u q => by
    by_cases hb : b = a
    · rw [hb] at q ⊢
      rw [e] at q
      cases q
      exact .inr (.inr ⟨o, kvs, rfl, upd_same⟩)
    · exact .inl (by rw [upd_ne hb]; exact q)
  thAt := fun H' e => by rw [upd_same, h]
end
section
variable {G : Gx} {T T' : Addr → Prop} {H Hz H' : Hp} {σ σ' : L2.St} {env env' : Env} {F F' : Nat → List Addr} {th : Hp → Hp} {a : Addr} {fo : HO} {i : Nat}
theorem slr_sim {G' : Gx} {s : Sl} {v : V} {fp : List Addr} (hK : G'.K = G.K) (e : Sim (hid T H) (hid T H')) (k : ∀ a ∈ fp, T a → H' a = H a) (h : SlR G T H s v fp) : SlR G' T H' s v fp := by
  cases s with
  | f d => exact ⟨hK ▸ h.1.sim e, h.2⟩
  | own o =>
    show Ow G'.K T H' o v fp
    rw [hK]
    exact Ow.sim (K := G.K) e k h
  | vw o =>
    show Ow G'.K T H' o v fp
    rw [hK]
    exact Ow.sim (K := G.K) e k h
theorem re_inZ (r : RE G T H σ env F) (z : Zw T H Hz th a fo) : RE (gZ G T Hz (OwnP env F) σ i) T Hz σ env F := by
  have nt : ∀ b, T b → b ≠ a := fun b h e => z.nt (by rw [← e]; exact h)
  have trk : Trk T Hz := fun b h => by rw [z.eq b (nt b h)]; exact r.trk b h
  exact ⟨trk, fun p hp => ⟨sim_at z.sim (r.tab p hp).1 (fun _ e => by cases e) (fun _ _ e => by cases e), (r.tab p hp).2⟩, fun j s hj => by
      obtain ⟨v, h1, h2⟩ := r.slot j s hj
      exact ⟨v, h1, slr_sim rfl (sim_hid z.sim) (fun b _ h => z.eq b (nt b h)) h2⟩, r.dis, .refl trk, fun _ h => .inl h, trk, fun _ _ => rfl, r.len, ex_none⟩
theorem chg_backZ (r : RE G T H σ env F) (z : Zw T H Hz th a fo) (c : Chg T Hz (OwnP env F) T' H') : H' a = some fo ∧ ¬ T' a ∧ Chg T H (OwnP env F) T' (th H') := by
  have np : ¬ OwnP env F a := fun h => z.nt (r.sub a h)
  have e := c.keep a fo z.at_ np
  have nt' : ¬ T' a := fun h => by
    rcases c.tf a h with q | q
    · exact z.nt q
    · rw [z.at_] at q; cases q
  refine ⟨e, nt', fun b u hb n => ?_, c.tk, fun b hb => ?_, fun b hb => ?_, fun b hb => ?_⟩
  · by_cases q : b = a
    · rw [q] at hb ⊢
      rw [z.thAt H' e]
      exact hb
    · rw [z.thEq H' b q]
      exact c.keep b u (by rw [z.eq b q]; exact hb) n
  · rcases c.tf b hb with q | q
    · exact .inl q
    · refine .inr ?_
      by_cases y : b = a
      · rw [y] at hb
        exact absurd hb nt'
      · rw [← z.eq b y]
        exact q
  · have y : b ≠ a := fun y => nt' (by rw [← y]; exact hb)
    rw [z.thEq H' b y]
    exact c.tr b hb
  · by_cases y : b = a
    · rw [y, z.thAt H' e]
      exact z.ha
    · rw [z.thEq H' b y]
      exact c.dom b (by rw [z.eq b y]; exact hb)
theorem re_backZ (r : RE G T H σ env F) (z : Zw T H Hz th a fo) (r' : RE (gZ G T Hz (OwnP env F) σ i) T' H' σ' env' F') : H' a = some fo ∧ ¬ T' a ∧ Chg T H (OwnP env F) T' (th H') ∧ RE G T' (th H') σ' env' F' := by
  obtain ⟨e, nt', c⟩ := chg_backZ r z r'.st
  refine ⟨e, nt', c, c.tr, fun p hp => ⟨sim_at (z.thSim H' e) (r'.tab p hp).1 (fun _ e => by cases e) (fun _ _ e => by cases e), (r'.tab p hp).2⟩, fun j s hj => ?_, r'.dis, r.st.trans r.t0 c r.ow, fun b hb => ?_, r.t0, fun j hj => ?_, r'.len, r.hx.trans (c.hid r.sub)⟩
  · obtain ⟨v, h1, h2⟩ := r'.slot j s hj
    exact ⟨v, h1, slr_sim rfl (sim_hid (z.thSim H' e)) (fun b _ h => z.thEq H' b fun y => nt' (by rw [← y]; exact h)) h2⟩
  · rcases r'.ow b hb with q | q
    · exact r.ow b q
    · refine .inr ?_
      have y : b ≠ a := fun y => by
        have q : Hz b = none := q
        rw [y, z.at_] at q; cases q
      have hb2 : H b = none := by rw [← z.eq b y]; exact q
      cases h0 : G.H0 b with
      | none => rfl
      | some u => exact absurd hb2 (r.st.dom b (by rw [h0]; exact nofun))
  · have p := r'.pin j (by show ((j == i) || G.prot j) = true; rw [hj]; simp)
    exact p.trans (r.pin j hj)
theorem noneZ (z : Zw T H Hz th a fo) {b : Addr} (h : Hz b = none) : H b = none := by
  have y : b ≠ a := fun y => by rw [y, z.at_] at h; cases h
  rw [← z.eq b y]
  exact h
theorem att_backZ (r : RE G T H σ env F) (z : Zw T H Hz th a fo) (a' : Att (gZ G T Hz (OwnP env F) σ i) σ T Hz env F T' H' env' F') : H' a = some fo ∧ Att G σ T H env F T' (th H') env' F' := by
  obtain ⟨e, _, c, re⟩ := re_backZ r z a'.re
  exact ⟨e, c, re, fun b hb => (a'.own b hb).imp id (noneZ z), a'.vw⟩
theorem res_backZ {s : Sl} {v : V} {fr : List Addr} (z : Zw T H Hz th a fo) (e : H' a = some fo) (nt' : ¬ T' a) (q : Res (gZ G T Hz (OwnP env F) σ i) T Hz env F T' H' env' F' s v fr) : Res G T H env F T' (th H') env' F' s v fr :=
  ⟨slr_sim rfl (sim_hid (z.thSim H' e)) (fun b _ h => z.thEq H' b fun y => nt' (by rw [← y]; exact h)) q.rel, q.dis, fun o eo b hb => (q.from_ o eo b hb).imp id (noneZ z)⟩
end
section
variable {X : Cx} {G : Gx} {e : Expr} {st : Stmt} {i : Nat} {w : WE} {ws : WS}
def wFz (i : Nat) (w : WE) : WE := fun env Q => (∃ ks ds, env[i]? = some (some (.f (.dic ks ds)))) ∧ w env Q
def wFzS (i : Nat) (w : WS) : WS := fun D env => (∃ ks ds, env[i]? = some (some (.f (.dic ks ds)))) ∧ w D env
theorem fzAt_any (i : Nat) : FzAt i (fun _ => False) (fun _ => some (.frz ({ cls := .none, data := .fields #[] } : Obj) (.dK []))) (fun _ => False) (List.replicate (i + 1) (some (.ref 0))) := ⟨0, _, [], by rw [List.getElem?_replicate]; simp, rfl, id, id⟩
/-- where the dict stands -/
theorem dic_at {T : Addr → Prop} {H : Hp} {σ : L2.St} {env : Env} {F : Nat → List Addr} {ks : List Key} {ds : List D} (r : RE G T H σ env F) (hi : env[i]? = some (some (.f (.dic ks ds)))) :
    ∃ a kvs, σ[i]? = some (some (.ref a)) ∧ ¬ T a ∧ (H a = some (.dK kvs) ∨ ∃ o, H a = some (.frz o (.dK kvs))) := by
  obtain ⟨v, h1, h2⟩ := r.slot i _ hi
  have fz : Fz G.K (hid T H) v (.dic ks ds) := h2.1
  cases fz with
  | dic q l f =>
    rcases q with q | ⟨o, q⟩
    · obtain ⟨q1, q2⟩ := hid_some q
      exact ⟨_, _, h1, q2, .inl q1⟩
    · obtain ⟨q1, q2⟩ := hid_some q
      exact ⟨_, _, h1, q2, .inr ⟨o, q1⟩⟩
theorem ge_fz (h : ∀ T H P σ, FzAt i T H P σ → GE X (gZ G T H P σ i) e w) : GE X G e (wFz i w) := by
  have mw : MonoE w := (h _ _ _ _ (fzAt_any i)).mono
  have pe0 : PE X e (fun σ H Q => ∃ T0 H0 P0 σ0, FzAt i T0 H0 P0 σ0 ∧ tW (gZ G T0 H0 P0 σ0 i) w σ H Q) := ⟨fun pins s σ H Q I ⟨T0, H0, P0, σ0, f, q⟩ => (h T0 H0 P0 σ0 f).pe.run pins s σ H Q I q⟩
  refine ⟨⟨fun pins s σ H Q I ⟨T, env, F, r, ⟨ks, ds, hi⟩, q⟩ => ?_⟩, fun env Q Q' i ⟨h, q⟩ => ⟨h, mw _ _ _ i q⟩⟩
  obtain ⟨a, kvs, h1, nT, hk⟩ := dic_at r hi
  have nP : ¬ OwnP env F a := fun z => nT (r.sub a z)
  rcases hk with hk | ⟨o, hk⟩
  · refine (pe_fz pe0).run pins s σ H Q I ⟨a, kvs, hk, fun o => ?_⟩
    have z : Zw T H _ _ a _ := zw_fz (o := o) hk nT
    refine ⟨T, upd H a (.frz o (.dK kvs)), OwnP env F, σ, ⟨a, o, kvs, h1, upd_same, nT, nP⟩, T, env, F, re_inZ r z, mw _ _ _ (fun s1 e1 q v T1 H1 F1 f1 a1 z1 => ?_) q⟩
    obtain ⟨e2, a2⟩ := att_backZ r z a1
    obtain ⟨_, nt', _⟩ := re_backZ r z a1.re
    exact ⟨e2, q v T1 _ F1 f1 a2 (res_backZ z e2 nt' z1)⟩
  · have z : Zw T H _ _ a _ := zw_id hk nT
    refine pe0.run pins s σ H Q I ⟨T, H, OwnP env F, σ, ⟨a, o, kvs, h1, hk, nT, nP⟩, T, env, F, re_inZ r z, mw _ _ _ (fun s1 e1 q v T1 H1 F1 f1 a1 z1 => ?_) q⟩
    obtain ⟨e2, a2⟩ := att_backZ r z a1
    obtain ⟨_, nt', _⟩ := re_backZ r z a1.re
    exact q v T1 _ F1 f1 a2 (res_backZ z e2 nt' z1)
theorem ress_backZ {T T' : Addr → Prop} {H Hz H' : Hp} {σ : L2.St} {env env' : Env} {F F' : Nat → List Addr} {th : Hp → Hp} {a : Addr} {fo : HO} {s : Sl} {v : V} {fr : List Addr} (r : RE G T H σ env F) (z : Zw T H Hz th a fo) (e : H' a = some fo) (nt' : ¬ T' a)
    (q : ResS (gZ G T Hz (OwnP env F) σ i) T' H' env' F' s v fr) : ResS G T' (th H') env' F' s v fr :=
  ⟨slr_sim rfl (sim_hid (z.thSim H' e)) (fun b _ h => z.thEq H' b fun y => nt' (by rw [← y]; exact h)) q.rel, q.nv, q.dis, fun o eo b hb => by
    rcases q.from_ o eo b hb with p | p
    · exact r.ow b p
    · refine .inr ?_
      have hb2 : H b = none := noneZ z p
      cases h0 : G.H0 b with
      | none => rfl
      | some u => exact absurd hb2 (r.st.dom b (by rw [h0]; exact nofun))⟩
theorem gs_fz (h : ∀ T H P σ, FzAt i T H P σ → GS X (gZ G T H P σ i) st ws) : GS X G st (wFzS i ws) := by
  have mw : MonoS ws := (h _ _ _ _ (fzAt_any i)).mono
  have ps0 : PS X st (fun D σ H => ∃ T0 H0 P0 σ0, FzAt i T0 H0 P0 σ0 ∧ tWS (gZ G T0 H0 P0 σ0 i) ws D σ H) := ⟨fun pins s σ H D I ⟨T0, H0, P0, σ0, f, q⟩ => (h T0 H0 P0 σ0 f).ps.run pins s σ H D I q⟩
  refine ⟨⟨fun pins s σ H D I ⟨T, env, F, r, ⟨ks, ds, hi⟩, q⟩ => ?_⟩, fun D D' env l ⟨h, q⟩ => ⟨h, mw _ _ _ l q⟩⟩
  obtain ⟨a, kvs, h1, nT, hk⟩ := dic_at r hi
  have nP : ¬ OwnP env F a := fun z => nT (r.sub a z)
  have exb : ∀ {Hz : Hp} {th : Hp → Hp} {fo : HO} {T1 : Addr → Prop} {H1 : Hp} {σ1 : L2.St} {e1 : Env} {F1 : Nat → List Addr}, Zw T H Hz th a fo → RE (gZ G T Hz (OwnP env F) σ i) T1 H1 σ1 e1 F1 → Ex (hid T H) (hid T1 (th H1)) := fun z r1 => by
    obtain ⟨_, _, c, _⟩ := re_backZ r z r1
    exact c.hid r.sub
  rcases hk with hk | ⟨o, hk⟩
  · refine (ps_fz ps0).run pins s σ H D I ⟨a, kvs, hk, fun o => ?_⟩
    have z : Zw T H _ _ a _ := zw_fz (o := o) hk nT
    refine ⟨T, upd H a (.frz o (.dK kvs)), OwnP env F, σ, ⟨a, o, kvs, h1, upd_same, nT, nP⟩, T, env, F, re_inZ r z, mw _ _ _ ⟨fun e1 q σ1 T1 H1 F1 r1 x1 => ?_, fun s1 e1 q v σ1 T1 H1 F1 fr r1 z1 => ?_, fun e1 q σ1 T1 H1 F1 r1 x1 => ?_, fun e1 q σ1 T1 H1 F1 r1 x1 => ?_⟩ q⟩
    · obtain ⟨e2, nt', _, r2⟩ := re_backZ r z r1
      exact ⟨e2, q σ1 T1 _ F1 r2 (exb z r1)⟩
    · obtain ⟨e2, nt', _, r2⟩ := re_backZ r z r1
      exact ⟨e2, q v σ1 T1 _ F1 fr r2 (ress_backZ r z e2 nt' z1)⟩
    · obtain ⟨e2, nt', _, r2⟩ := re_backZ r z r1
      exact ⟨e2, q σ1 T1 _ F1 r2 (exb z r1)⟩
    · obtain ⟨e2, nt', _, r2⟩ := re_backZ r z r1
      exact ⟨e2, q σ1 T1 _ F1 r2 (exb z r1)⟩
  · have z : Zw T H _ _ a _ := zw_id hk nT
    refine ps0.run pins s σ H D I ⟨T, H, OwnP env F, σ, ⟨a, o, kvs, h1, hk, nT, nP⟩, T, env, F, re_inZ r z, mw _ _ _ ⟨fun e1 q σ1 T1 H1 F1 r1 x1 => ?_, fun s1 e1 q v σ1 T1 H1 F1 fr r1 z1 => ?_, fun e1 q σ1 T1 H1 F1 r1 x1 => ?_, fun e1 q σ1 T1 H1 F1 r1 x1 => ?_⟩ q⟩
    · obtain ⟨e2, nt', _, r2⟩ := re_backZ r z r1
      exact q σ1 T1 _ F1 r2 (exb z r1)
    · obtain ⟨e2, nt', _, r2⟩ := re_backZ r z r1
      exact q v σ1 T1 _ F1 fr r2 (ress_backZ r z e2 nt' z1)
    · obtain ⟨e2, nt', _, r2⟩ := re_backZ r z r1
      exact q σ1 T1 _ F1 r2 (exb z r1)
    · obtain ⟨e2, nt', _, r2⟩ := re_backZ r z r1
      exact q σ1 T1 _ F1 r2 (exb z r1)
/-! its keys -/
def keyD : Key → D
  | .inl i => .int i
  | .inr x => .str x
def wiK (i : Nat) : WI := fun env Q => ∃ ks ds, env[i]? = some (some (.f (.dic ks ds))) ∧ Q (ks.map keyD) env
theorem itd_keys {K : PySem.W.Frag} {a : Addr} {o : Obj} {ks : List Key} {vs : List V} (hl : ks.length = vs.length) : ItD K (Itk a o (ks.zip vs)) (fun T H => hid T H a = some (.frz o (.dK (ks.zip vs)))) (ks.map keyD) where
  go := fun i T H t h hi => by
    have hz : (ks.zip vs).length = ks.length := by rw [List.length_zip, hl]; exact Nat.min_self _
    have hi' : i < ks.length := by simpa using hi
    refine ⟨⟨(hid_some h).1, by rw [hz]; exact hi'⟩, fun v H' ⟨e, k, w, hk, ev⟩ => ?_⟩
    subst e ev
    have hk' : ks[i]? = some k := by
      have := (List.getElem?_zip_eq_some.mp hk).1
      exact this
    refine ⟨keyD k, by rw [List.getElem?_map, hk'] <;> rfl, Ex.refl _, ?_⟩
    cases k with
    | inl j => exact .int j
    | inr x => exact .str x
  stop := fun i T H h hi => ⟨(hid_some h).1, by rw [hi, List.length_map, List.length_zip, hl]; exact Nat.le_of_eq (Nat.min_self _)⟩
  keep := fun T H T' H' h e => e _ _ h
theorem gi_keys {tg : Expr} {T : Addr → Prop} {H : Hp} {P : Addr → Prop} {σ : L2.St} (hz : FzAt i T H P σ) (hv : PE X e (tVar i)) : GI X (gZ G T H P σ i) tg e (wiK i) := by
  refine ⟨pi_imp (pi_keys hv) fun σ' H' R ⟨T1, env, F, r, ks, ds, hi, q⟩ => ?_, fun env Q Q' j ⟨ks, ds, h, q⟩ => ⟨ks, ds, h, j _ _ q⟩⟩
  obtain ⟨a, o, kvs, h1, h2, h3, h4⟩ := hz
  obtain ⟨v, e1, e2⟩ := r.slot i _ hi
  have p : σ'[i]? = σ[i]? := r.pin i (by show ((i == i) || G.prot i) = true; simp)
  rw [p, h1] at e1
  cases e1
  have ha : H' a = some (.frz o (.dK kvs)) := r.st.keep a _ h2 h4
  have fz : Fz G.K (hid T1 H') (.ref a) (.dic ks ds) := e2.1
  refine ⟨.ref a, by rw [p]; exact h1, a, o, rfl, .inl ⟨kvs, ha, ?_⟩⟩
  cases fz with
  | dic rd l f =>
    have hh : hid T1 H' a = some (.frz o (.dK kvs)) := by
      rcases rd with z | ⟨o', z⟩
      · rw [(hid_some z).1] at ha; cases ha
      · exact hid_of ha (hid_some z).2
    rename_i vs
    have ek : kvs = ks.zip vs := by
      rcases rd with z | ⟨o', z⟩
      · rw [hh] at z; cases z
      · rw [hh] at z; cases z; rfl
    subst ek
    exact q _ T1 H' F _ (.refl r) (itd_keys l) hh
end
end Fx

/-! Fx63: dicts of values: ==, pop, looks at an owned one -/
namespace Fx
open PySem PySem.Spec PyProof.Rows L2 Evl Lk
section
variable {X : Cx} {G : Gx}
end
/-! a dict that is looked at, whoever owns it -/
section
variable {X : Cx} {G : Gx} {o i e : Expr} {w w1 w2 : WE} {pos p : Pos} {j : Nat}
end
end Fx

/-! Fx64: for k, v in d.items(): a value's, an owned dict's -/
namespace Fx
open PySem PySem.Spec PyProof.Rows L2 Evl Lk
section
variable {K : PySem.W.Frag} {T : Addr → Prop} {H : Hp} {a : Addr} {o : Obj}
theorem Zp.at {kvs : List (Key × V)} {l : List (Key × D)} (z : Zp K H kvs l) : ∀ {i : Nat} {k : Key} {v : V}, kvs[i]? = some (k, v) → ∃ d, l[i]? = some (k, d) ∧ Fz K H v d := by
  induction z with
  | nil => intro i k v h; cases h
  | cons f z ih =>
    intro i k v h
    cases i with
    | zero => cases h; exact ⟨_, rfl, f⟩
    | succ i => exact ih (by simpa using h)
theorem Zp.ex {H' : Hp} {kvs : List (Key × V)} {l : List (Key × D)} (z : Zp K H kvs l) (e : Ex H H') : Zp K H' kvs l := by
  induction z with
  | nil => exact .nil
  | cons f z ih => exact .cons (f.ex e) ih
end
section
variable {X : Cx} {G : Gx} {e : Expr} {i : Nat} {elts : List Expr} {kk : Nat} {tpos apos cpos : Pos}
end
/-! the items of an owned dict: while they are walked its slot is empty -/
section
variable {X : Cx} {G : Gx} {tg iter e : Expr} {i : Nat} {elts : List Expr} {kk : Nat} {tpos apos cpos pos : Pos} {ds : List D}
end
section
variable {X : Cx} {G : Gx} {st : Stmt} {i : Nat} {ws : List (Key × D) → WS}
end
end Fx

/-! Fx65: enumerate(list, start=k); [a, b][i] of owned things; isinstance of a thing at a slot; for over dict values as statements -/
namespace Lk
open PySem PySem.Spec PyProof.Rows L2 Evl
end Lk
namespace Fx
open PySem PySem.Spec PyProof.Rows L2 Evl Lk
section
variable {X : Cx} {G : Gx} {wa : WA} {pos : Pos}
/-! [a, b, ..][i], what stands there is owned -/
/-! isinstance(x, t), x a name whatever it holds -/
end
end Fx

/-! Fx66: for over dict values as statements; what is left to show of Fx60 to Fx65 -/
namespace Fx
open PySem PySem.Spec PyProof.Rows L2 Evl Lk
section
variable {X : Cx} {G : Gx} {tg e : Expr} {i : Nat} {g : WG} {ws : WS} {body : List Stmt} {pos : Pos} {elts : List Expr} {kk : Nat} {tpos apos cpos : Pos}
theorem gs_forK (hv : PE X e (tVar i)) (hg : ∀ T H P σ, GG X (gZ G T H P σ i) tg g) (hb : ∀ T H P σ, GSs X (gZ G T H P σ i) body ws) (hp : PassesOwn (model X.prog X.w) X.A X.env X.xe) (hc : X.calm = true) (hs : ∀ x, foldedSetIterable e X.env x = pure x := by intro _; rfl) :
    GS X G (.For tg e body [] pos) (wFzS i (wFor (wiK i) g ws)) := gs_fz fun T H P σ hz => gs_for hp hc (gi_keys hz hv) (hg T H P σ) (hb T H P σ) hs
end
section
variable {env : Env} {Q : Sl → Env → Prop} {QL : List D → Env → Prop} {w w2 : WE} {wa : WA} {wi : WI} {v : WP} {D0 : WEnds} {i : Nat} {cs : List Nat} {g : WG} {ws : WS} {l : List (Key × D)} {o : OpC}
theorem x_fz (h0 : env[i]? = some (some (.f (dicD l)))) (h : w env Q) : wFz i w env Q := ⟨⟨_, _, h0⟩, h⟩
theorem x_fzS (h0 : env[i]? = some (some (.f (dicD l)))) (h : ws D0 env) : wFzS i ws D0 env := ⟨⟨_, _, h0⟩, h⟩
theorem x_iK (h0 : env[i]? = some (some (.f (dicD l)))) (h : QL ((l.map (·.1)).map keyD) env) : wiK i env QL := ⟨_, _, h0, h⟩
theorem x_allX {kp : Bool} (h : wi env fun ds e0 => ∃ pb : D → Bool, (∀ d ∈ ds, w (none :: some (.f d) :: cs.map (capE e0)) fun r _ => r = .f (.bl (pb d))) ∧ Q (.f (.bl (qAll kp ds pb))) e0) : wAllX wi cs kp w env Q := h
end
end Fx

namespace Fx
open PySem PySem.Spec PyProof.Rows L2 Evl Lk
/-! ### text.startswith(text) -/
section
variable {X : Cx} {G : Gx} {e : Expr} {w1 w2 : WE} {env : Env} {Q : Sl → Env → Prop}
end
end Fx

namespace Fx
open PySem PySem.Spec PyProof.Rows L2 Evl Lk
/-! ### xs.insert(i, e), xs owned -/
section
variable {X : Cx} {G : Gx} {wd : WAD}
end
/-! ### x + e, lists, the sum owned -/
section
variable {X : Cx} {G : Gx} {w1 w2 : WE} {a b : Expr} {pos : Pos}
end
/-! ### a == b, of dicts or of other things -/
section
variable {X : Cx} {G : Gx}
end
end Fx

namespace Fx
open PySem PySem.Spec PyProof.Rows L2 Evl Lk
/-! ### text.count(text) -/
section
variable {X : Cx} {G : Gx} {e : Expr} {w1 w2 : WE} {env : Env} {Q : Sl → Env → Prop}
end
end Fx

/-! Fx70: d.values() of a dict value, text.index(text) -/
namespace Fx
open PySem PySem.Spec PyProof.Rows L2 Evl Lk
section
variable {K : PySem.W.Frag} {a : Addr} {o : Obj}
theorem itd_vals {kvs : List (Key × V)} {l : List (Key × D)} : ItD K (Itd a o kvs) (fun T H => hid T H a = some (.frz o (.dK kvs)) ∧ Zp K (hid T H) kvs l) (l.map fun p => p.2) where
  go := fun i T H t h hi => ⟨⟨(hid_some h.1).1, by rw [h.2.length]; simpa using hi⟩, fun v H' ⟨e, k, hk⟩ => by
    subst e
    obtain ⟨d, hd, fz⟩ := h.2.at hk
    exact ⟨d, by rw [List.getElem?_map, hd] <;> rfl, Ex.refl _, fz⟩⟩
  stop := fun i T H h hi => ⟨(hid_some h.1).1, by rw [h.2.length, hi, List.length_map]; exact Nat.le_refl _⟩
  keep := fun T H T' H' h e => ⟨e _ _ h.1, h.2.ex e⟩
end
/-- the values of a dict value at a slot -/
def wiVal (i : Nat) : WI := fun env Q => ∃ l, env[i]? = some (some (.f (dicD l))) ∧ Q (l.map fun p => p.2) env
section
variable {X : Cx} {G : Gx} {e tg : Expr} {i : Nat} {apos cpos : Pos} {w1 w2 : WE}
theorem gi_values {T : Addr → Prop} {H : Hp} {P : Addr → Prop} {σ : L2.St} (hz : FzAt i T H P σ) (hv : PE X e (tVar i)) (hbase : attributeBase e "values" X.env (eval e X.env) = eval e X.env := by rfl) (hline : (apos.endLine == cpos.line) = true := by rfl) :
    GI X (gZ G T H P σ i) tg (.Call (.Attribute e "values" apos) [] [] cpos) (wiVal i) := by
  refine ⟨pi_imp (pi_values hv hbase hline) fun σ' H' R ⟨T1, env, F, r, l, hi, q⟩ => ?_, fun env Q Q' j ⟨l, h, q⟩ => ⟨l, h, j _ _ q⟩⟩
  obtain ⟨a, o, kvs, h1, h2, h3, h4⟩ := hz
  obtain ⟨v, e1, e2⟩ := r.slot i _ hi
  have p : σ'[i]? = σ[i]? := r.pin i (by show ((i == i) || G.prot i) = true; simp)
  rw [p, h1] at e1
  cases e1
  have ha : H' a = some (.frz o (.dK kvs)) := r.st.keep a _ h2 h4
  have fz : Fz G.K (hid T1 H') (.ref a) (dicD l) := e2.1
  obtain ⟨a', kvs', ea, rd, zp⟩ := fz_dicD fz
  cases ea
  have hh : hid T1 H' a = some (.frz o (.dK kvs)) := by
    rcases rd with z | ⟨o', z⟩
    · rw [(hid_some z).1] at ha; cases ha
    · exact hid_of ha (hid_some z).2
  have ek : kvs = kvs' := by
    rcases rd with z | ⟨o', z⟩
    · rw [hh] at z; cases z
    · rw [hh] at z; cases z; rfl
  subst ek
  exact ⟨.ref a, by rw [p]; exact h1, a, o, kvs, rfl, ha, q _ T1 H' F _ (.refl r) itd_vals ⟨hh, zp⟩⟩
theorem x_iVal {env : Env} {QL : List D → Env → Prop} {l : List (Key × D)} (h0 : env[i]? = some (some (.f (dicD l)))) (h : QL (l.map fun p => p.2) env) : wiVal i env QL := ⟨l, h0, h⟩
end
end Fx

/-! Fx71: sorted(list of texts), owned -/
namespace Fx
open PySem PySem.Spec PyProof.Rows L2 Evl Lk
section
variable {X : Cx} {G : Gx} {e : Expr} {w : WE} {p pos : Pos}
end
end Fx

/-! Fx72: xs.extend(e), xs owned, e a new list -/
namespace Fx
open PySem PySem.Spec PyProof.Rows L2 Evl Lk
def wExt (k : Nat) (w : WE) : WS := fun D env => (∃ s, env[k]? = some (some (.own (.lst s)))) ∧ w env fun r e => ∃ zs ds : List Fx.D, r = .own (.lst zs) ∧ e[k]? = some (some (.own (.lst ds))) ∧ ds.length + zs.length ≤ sizeLine ∧ D.nx (e.set k (some (.own (.lst (ds ++ zs)))))
section
variable {X : Cx} {G : Gx} {w : WE}
theorem gs_extend {o e : Expr} {k : Nat} {apos cpos pos : Pos} (ho : PE X o (tVar k)) (he : GE X G e w) (hs : swapsWith (.Call (.Attribute o "extend" apos) [e] [] cpos) none pos.line X.env = pure false := by rfl)
    (hbase : attributeBase o "extend" X.env (eval o X.env) = eval o X.env := by rfl)
    (hfew : ((backTo cpos (starEach [e] X.env)).all (fun x => !x.1) && (backToKw cpos (keywordEach [] X.env)).all (fun x => x.1.isSome) && decide (([e] : List Expr).length + ([] : List Keyword).length + (if ([] : List Keyword).isEmpty then 0 else 1) < 30)) = true := by rfl)
    (hline : (apos.endLine == cpos.line) = true := by rfl) (hst : starEach [e] X.env = (false, eval e X.env) :: starEach [] X.env := by rfl) (hpl : (backTo cpos (starEach [] X.env)).any (·.1) = false := by rfl) :
    GS X G (.Expr (.Call (.Attribute o "extend" apos) [e] [] cpos) pos) (wExt k w) := by
  refine ⟨ps_imp (ps_expr (pe_bm PySem.F.plainAttrs_list PySem.F.slot_list_extend PySem.F.type_list_extend mt_extend ho (pa_cons he.pe pa_nil hst) hbase hfew hline hst hpl) hs) fun D σ H ⟨T, env, F, r, ⟨s0, h0⟩, q⟩ => ?_, fun D D' env l ⟨h0, q⟩ => ⟨h0, he.mono _ _ _ (fun r e ⟨zs, ds, h1, h2, h3, q⟩ => ⟨zs, ds, h1, h2, h3, l.nx _ q⟩) q⟩⟩
  obtain ⟨p0, vs0, s1, hp0, _, _⟩ := own_lst r h0
  refine ⟨_, s1, ?_, T, env, F, r, he.mono _ _ _ (fun s e ⟨zs, ds, h1, h2, h3, q⟩ x T1 H1 F1 f1 a z => ?_) q⟩
  · exact .inl ⟨rfl, vs0, SqL.of hp0⟩
  subst h1
  have rel : Ow G.K T1 H1 (.lst zs) x f1 := z.rel
  cases rel with
  | lst a1 b1 c1 =>
    rename_i p2 ws2
    obtain ⟨p, ws, s2, hp1, fz, upd_⟩ := own_lst a.re h2
    rw [s1] at s2
    cases s2
    have a2 := upd_ (ws ++ ws2) (ds ++ zs) (fz.append c1)
    exact ⟨p0, p2, ws, ws2, rfl, rfl, hp1, b1, by rw [fz.length, c1.length]; exact h3, q σ T1 _ F1 a2.re ((a.chg.hid r.sub).trans (a2.chg.hid a.re.sub))⟩
theorem x_extO {k : Nat} {D : WEnds} {env : Env} {s : List Fx.D} (h0 : env[k]? = some (some (.own (.lst s)))) (h : w env fun r e => ∃ zs ds : List Fx.D, r = .own (.lst zs) ∧ e[k]? = some (some (.own (.lst ds))) ∧ ds.length + zs.length ≤ sizeLine ∧ D.nx (e.set k (some (.own (.lst (ds ++ zs)))))) : wExt k w D env := ⟨⟨s, h0⟩, h⟩
end
end Fx

/-! Fx73: sorted(rows), rows a list or a tuple of alike data; the result owned -/
namespace Fx
open PySem PySem.Spec PyProof.Rows L2 Evl Lk PySem.W
namespace ST
section
variable {prog : Program} {w : World} {A : Around} {E : Value → Shared → Prop} {s : Shared} {κ : PyProof.Rows.KeyKind}
end
section
variable {X : Cx}
end
end ST
section
variable {X : Cx} {G : Gx} {e : Expr} {w : WE} {p pos : Pos}
end
end Fx

/-! Fx74: a built-in function asked in two ways; str of anything, tuples too -/
namespace Fx
open PySem PySem.Spec PyProof.Rows L2 Evl Lk
section
variable {X : Cx} {G : Gx}
end
end Fx

/-! Fx75: dict(zip(texts, values)) -/
namespace Fx
open PySem PySem.Spec PyProof.Rows L2 Evl Lk
section
variable {X : Cx} {G : Gx}
end
end Fx

/-! Fx76: text[::-1] -/
namespace Fx
open PySem PySem.Spec PyProof.Rows L2 Evl Lk
section
variable {X : Cx} {G : Gx} {e : Expr} {w : WE}
end
end Fx

/-! Fx77: a, b = (x, y), stored from the right -/
namespace Fx
open PySem PySem.Spec PyProof.Rows L2 Evl Lk
section
variable {X : Cx} {G : Gx} {wd : WAD}
end
end Fx

/-! Fx78: an owned thing handed on as a value, which its name keeps -/
namespace Fx
open PySem PySem.Spec PyProof.Rows L2 Evl Lk
def wKeep (i : Nat) : WE := fun env Q => (∃ o d, env[i]? = some (some (.own o)) ∧ o.cd = some d ∧ Q (.f d) (env.set i (some (.f d)))) ∨ ∃ d, env[i]? = some (some (.f d)) ∧ Q (.f d) env
section
variable {X : Cx} {G : Gx} {e : Expr}
theorem set_f_own {env : Env} {i j : Nat} {d : D} (h : IsOwn (env.set i (some (.f d))) j) : j ≠ i ∧ IsOwn env j := by
  obtain ⟨o, h⟩ := h
  rcases set_get h with ⟨_, e⟩ | ⟨n, e⟩
  · cases e
  · exact ⟨n, o, e⟩
theorem ge_keep {i : Nat} (h : PE X e (tVar i)) (hp : G.prot i = false := by rfl) : GE X G e (wKeep i) := by
  refine ⟨pe_imp h fun σ H Q ⟨T, env, F, r, q⟩ => ?_, fun env Q Q' j q => q.imp (fun ⟨o, d, ho, hd, q⟩ => ⟨o, d, ho, hd, j _ _ q⟩) fun ⟨d, ho, q⟩ => ⟨d, ho, j _ _ q⟩⟩
  rcases q with ⟨o, d, ho, hd, q⟩ | ⟨d, ho, q⟩
  · obtain ⟨v, h1, h2⟩ := r.slot i _ ho
    have h2 : Ow G.K T H o v (F i) := h2
    have own : ∀ a ∈ F i, OwnP env F a := fun a ha => ⟨i, ⟨o, ho⟩, ha⟩
    have re := att_free (fr := F i) (r.drop i) (fun a ha => r.ow a (own a ha)) fun j hj a ha hb => by
      obtain ⟨n, hj⟩ := set_none_s hj
      exact r.dis i j n.symm ⟨o, ho⟩ hj a ha hb
    have hi : i < σ.length := (List.getElem?_eq_some_iff.mp h1).1
    have re2 := re.store (r := .f d) i hi hp nofun (fr := []) ⟨h2.frz hd, rfl⟩ nofun nofun
    have es : σ.set i (some v) = σ := by
      refine List.ext_getElem? fun k => ?_
      rw [List.getElem?_set]
      by_cases e : i = k
      · subst e
        rw [if_pos rfl, if_pos hi, h1]
      · rw [if_neg e]
    rw [es, List.set_set] at re2
    refine ⟨v, h1, q v _ H (upF F i []) [] ⟨⟨fun _ _ h _ => h, fun x hx n => ⟨hx, fun hf => n (own x hf)⟩, fun x hx => .inl hx.1, re.trk, fun _ h => h⟩, re2, fun a ⟨j, hj, ha⟩ => ?_, fun j o h => ?_⟩ (res_f (h2.frz hd))⟩
    · obtain ⟨n, hj⟩ := set_f_own hj
      refine .inl ⟨j, hj, ?_⟩
      have : upF F i [] j = F j := by unfold upF; rw [if_neg n]
      rw [← this]
      exact ha
    · rcases set_get h with ⟨_, e⟩ | ⟨n, e⟩
      · cases e
      · exact ⟨e, by unfold upF; rw [if_neg n]⟩
  · obtain ⟨v, h1, h2⟩ := r.slot i _ ho
    exact ⟨v, h1, q v _ H F [] (.refl r) (res_f h2.1)⟩
theorem x_keepO {i : Nat} {env : Env} {Q : Sl → Env → Prop} {o : O} {d : D} (ho : env[i]? = some (some (.own o))) (hd : o.cd = some d) (h : Q (.f d) (env.set i (some (.f d)))) : wKeep i env Q := .inl ⟨o, d, ho, hd, h⟩
theorem x_keepF {i : Nat} {env : Env} {Q : Sl → Env → Prop} {d : D} (ho : env[i]? = some (some (.f d))) (h : Q (.f d) env) : wKeep i env Q := .inr ⟨d, ho, h⟩
end
end Fx

/-! Fx79: a def called with an owned thing lent as its second value, which stays owned (what comes back is flat) -/
namespace Fx
open PySem PySem.Spec PyProof.Rows L2 Evl Lk
section
variable {X : Cx} {G : Gx} {e e2 : Expr} {x : Str} {k j i : Nat} {tabs : List Addr} {p pos : Pos} {w : WE} {W : WFn}
end
end Fx

/-! Fx80: targets of a pair that are no names: x[i], x[j] = .. -/
namespace Fx
open PySem PySem.Spec PyProof.Rows L2 Evl Lk
section
variable {X : Cx} {G : Gx} {e : Expr} {es : List Expr} {g : WG} {u : WGs}
end
end Fx

/-! Fx81: list(tuple), owned -/
namespace Fx
open PySem PySem.Spec PyProof.Rows L2 Evl Lk
section
variable {X : Cx} {G : Gx} {e : Expr} {w : WE} {p pos : Pos}
end
end Fx

namespace Fx
open PySem PySem.Spec PyProof.Rows L2 Evl Lk
/-! ### d.get(k), k a key or None -/
def leafOf : Key → Leaf
  | .inl i => .num i
  | .inr x => .text x
theorem leaf_of {k : Key} {v : Value} (h : keyIs k v = true) : Leaf.isOf (leafOf k) v = true := by
  rcases keyIs_shape h with ⟨i, t, rfl, rfl⟩ | ⟨x, t, rfl, rfl⟩
  · show decide (i = i) = true
    exact decide_eq_true rfl
  · exact keyIs_str x t
theorem get_none {P : Program} {w : World} {h : Heap} {a : Addr} {vs : List (Key × Value)} (m : h.DictOf (mixKind P w) a vs) : ∃ f : Leaf → Option Value, h.MapOf (leafKind P w) a f ∧ f .none = none := by
  obtain ⟨o, es, ep, ho, hx, hd, hk, hf⟩ := m.mapOf
  refine ⟨fun k => findBy (leafKind P w).is es k, ⟨o, es, ep, ho, hx, hd, fun e he => ?_, fun k => rfl⟩, ?_⟩
  · obtain ⟨k, h1, h2⟩ := hk e he
    refine ⟨leafOf k, leaf_of h1, h2.trans ?_⟩
    cases k <;> rfl
  · show findBy (leafKind P w).is es Leaf.none = none
    rw [findBy_of_findIdx?]
    have : es.findIdx? (fun e => (leafKind P w).is .none e.key) = none := Array.findIdx?_eq_none_iff.mpr fun e he => by
      obtain ⟨k, h1, _⟩ := hk e he
      rcases keyIs_shape h1 with ⟨i, t, _, e1⟩ | ⟨x, t, _, e1⟩ <;> rw [e1] <;> rfl
    rw [this]
def tGetN (td ty : TE) : TE := fun σ H Q => td σ H fun x H1 => ∃ a, x = .ref a ∧ IsD H1 a ∧ ty σ H1 fun y H2 => (∃ o, DGet H2 a y o ∧ Q (o.getD .non) H2) ∨ (y = .non ∧ ∃ kvs, Rd H2 a (.dK kvs) ∧ Q .non H2)
section
variable {X : Cx} {o e : Expr} {apos cpos : Pos} {td ty : TE}
theorem pe_getN (hu : X.A.units + 1 < cLine) (ho : PE X o td) (he : PE X e ty) (m : M1 X o "get" apos e cpos) : PE X (.Call (.Attribute o "get" apos) [e] [] cpos) (tGetN td ty) := by
  refine ⟨fun pins s σ H Q I h => ?_⟩
  refine wpAny_Call_method m.base m.few m.line PySem.F.plainAttrs_dict PySem.F.slot_dict_get PySem.F.type_dict_get ?_
  refine thn (ho.run pins s σ H _ I h) fun u s1 ⟨x, H1, I1, rx, a, ex, d, q1⟩ => ?_
  subst ex
  obtain rfl : u = Value.ref a := rx
  have ⟨t1, t2, _⟩ := isD_at I1 d
  refine ⟨t1, t2, ?_⟩
  rw [m.trees]
  refine Calls.callWith_builtin rfl (Calls.evalArgs_plain (Calls.spliced_cons (thn (he.run pins s1 σ H1 _ I1 q1) fun iv s2 ⟨y, H2, I2, ry, alt⟩ => Calls.spliced_nil ?_)))
  rcases alt with ⟨ov, g, q2⟩ | ⟨ey, kvs, rd, q2⟩
  · exact d_get1 hu I2 g ry fun w' s3 I3 rw' => ⟨_, H2, I3, rw', q2⟩
  · subst ey
    obtain rfl : iv = Value.none := ry
    obtain ⟨_, hd, vs, _, dd⟩ := dk_rd I2.hok rd
    obtain ⟨f, mf, fn⟩ := get_none dd
    refine call_meetsIn PySem.F.slot_dict_get dd.typeIs PySem.F.entry_dict_get (PySem.F.args_dict_get_2 _ _) (meets_dict_get (leafKind X.prog X.w) a (k := Leaf.none) (key := Value.none) rfl hd) ⟨f, mf, ?_⟩
    rw [fn]
    exact ⟨.non, H2, I2.tok _, rfl, q2⟩
end
def keyO : Option Key → D
  | some k => dK k
  | none => .non
def getO (ks : List Key) (ds : List D) : Option Key → D
  | some k => getD ks ds k
  | none => .non
def wGetN (w1 w2 : WE) : WE := fun env Q => w1 env fun r e => ∃ ks ds, r = .f (.dic ks ds) ∧ w2 e fun r2 e2 => ∃ k : Option Key, r2 = .f (keyO k) ∧ Q (.f (getO ks ds k)) e2
section
variable {X : Cx} {G : Gx} {o e : Expr} {w1 w2 : WE} {apos cpos : Pos}
theorem ge_getN (hu : X.A.units + 65 < cLine) (ho : GE X G o w1) (he : GE X G e w2) (m : M1 X o "get" apos e cpos) : GE X G (.Call (.Attribute o "get" apos) [e] [] cpos) (wGetN w1 w2) := by
  refine ⟨pe_imp (pe_getN (by omega) ho.pe he.pe m) fun σ H Q ⟨T, env, F, r, q⟩ => ⟨T, env, F, r, ho.mono _ _ _ (fun s e ⟨ks, ds, hs, q⟩ x T1 H1 F1 f1 a1 z1 => ?_) q⟩, fun env Q Q' i q => ho.mono _ _ _ (fun s e ⟨ks, ds, hs, q⟩ => ⟨ks, ds, hs, he.mono _ _ _ (fun s2 e2 ⟨k, h1, q⟩ => ⟨k, h1, i _ _ q⟩) q⟩) q⟩
  subst hs
  have fz1 : Fz G.K (hid T1 H1) x (.dic ks ds) := z1.rel.1
  cases fz1 with
  | dic l hl f =>
    rename_i a vs
    have un : Rd H1 a (.dK (ks.zip vs)) := by
      rcases l with l | ⟨o, l⟩
      · exact .inl (hid_some l).1
      · exact .inr ⟨o, (hid_some l).1⟩
    have isd : IsD H1 a := .inl ⟨_, un⟩
    refine ⟨a, rfl, isd, T1, e, F1, a1.re, he.mono _ _ _ (fun s2 e2 ⟨k, h1, q⟩ y T2 H2 F2 f2 a2 z2 => ?_) q⟩
    subst h1
    have exx := a2.chg.hid a1.re.sub
    have un2 : Rd H2 a (.dK (ks.zip vs)) := by
      rcases l with l | ⟨o, l⟩
      · exact .inl (hid_some (exx a _ l)).1
      · exact .inr ⟨o, (hid_some (exx a _ l)).1⟩
    cases k with
    | some k =>
      have ey := fz_dK z2.rel.1
      subst ey
      exact .inl ⟨valV (ks.zip vs) k, .inl ⟨_, k, un2, rfl, rfl⟩, q _ T2 H2 F2 [] (a1.trans r.trk a2) (res_f (fz_get (f.ex exx)))⟩
    | none =>
      have fz2 : Fz G.K (hid T2 H2) y .non := z2.rel.1
      cases fz2
      exact .inr ⟨rfl, _, un2, q _ T2 H2 F2 [] (a1.trans r.trk a2) (res_f .non)⟩
end
section
variable {w1 w2 : WE} {env : Env} {Q : Sl → Env → Prop}
theorem x_getN (h : w1 env fun r e => ∃ ks ds, r = .f (.dic ks ds) ∧ w2 e fun r2 e2 => ∃ k : Option Key, r2 = .f (keyO k) ∧ Q (.f (getO ks ds k)) e2) : wGetN w1 w2 env Q := h
end
end Fx

namespace Fx
open PySem PySem.Spec PyProof.Rows L2 Evl Lk
/-! ### {**d, k: v} -/
section
variable {P : Program} {w : World} {κ : Type} [DecidableEq κ] {knd : KeyKind P w κ} {A : Around} {E : Value → Shared → Prop} {s : Shared}
theorem find_none {es : Array DictEntry} {l : List (κ × Value)} (hp : Pairs knd es.toList l) {k : κ} (hn : k ∉ l.map (·.1)) : es.findIdx? (fun e => knd.is k e.key) = none := by
  have h := hp.findIdx k
  have h2 : l.findIdx? (fun kv => decide (kv.1 = k)) = none := List.findIdx?_eq_none_iff.mpr fun x hx => by
    cases e : decide (x.1 = k) with
    | false => rfl
    | true => exact absurd (List.mem_map.mpr ⟨x, hx, of_decide_eq_true e⟩) hn
  rw [h2] at h
  obtain ⟨r⟩ := es
  simpa using h
theorem put_fresh {d : Addr} {l : List (κ × Value)} {k : κ} {key v : Value} {Q : Unit → Shared → Prop} (hkey : knd.is k key = true) (hm : s.heap.DictOf knd d l) (hn : k ∉ l.map (·.1)) (hz : l.length ≤ sizeLine)
    (hQ : ∀ h', h'.DictOf knd d (l ++ [(k, v)]) → Heap.SameBut d s.heap h' → Q () { s with heap := h' }) : wpAny (model P w) A (dictPut d (knd.hash k) key v) Q E s := by
  obtain ⟨o, es, ep, ho, hx, hd, hk, hp, nd⟩ := hm
  have e1 := hp.length
  have e2 : es.toList.length = es.size := Array.length_toList
  unfold dictPut
  refine wpAny_bind (wpAny_dictFind_of hkey ho hd hk ?_)
  rw [find_none hp hn]
  refine wpAny_updateDictKeys (hz := by omega) ho hd (hQ _ ⟨_, _, ep + 1, Heap.get?_update_self _ ho (Obj.isFreed_of_dict (Obj.data_mapDictKeys hd _)), hx.mapDictKeys _, Obj.data_mapDictKeys hd _, hk.push hkey _, ?_, ?_⟩ (Heap.SameBut.update ..))
  · rw [Array.toList_push]
    exact hp.append hkey _ _
  · rw [List.map_append]
    exact List.nodup_append.mpr ⟨nd, List.nodup_cons.mpr ⟨nofun, .nil⟩, fun x hx y hy e => hn (by have e2 : y = k := List.mem_singleton.mp hy; rw [← e2, ← e]; exact hx)⟩
theorem pairs_at {es : List DictEntry} {l : List (κ × Value)} (hp : Pairs knd es l) : ∀ i, i < es.length → ∃ e k v, es[i]? = some e ∧ l[i]? = some (k, v) ∧ knd.is k e.key = true ∧ e.val = v := by
  induction hp with
  | nil => exact fun i h => absurd h (Nat.not_lt_zero _)
  | @cons e kv es l h1 h2 ht ih =>
    intro i h
    cases i with
    | zero => exact ⟨e, kv.1, kv.2, rfl, rfl, h1, h2⟩
    | succ i => exact ih i (Nat.lt_of_succ_lt_succ h)
theorem ite_tail {α β : Type} {M : Model} {c : Prop} [Decidable c] {x : Sem α} {f : α → Sem β} {tail : Sem Unit} {Q : Unit → Shared → Prop} (h1 : wpAny M A x (fun a s' => wpAny M A (f a) (fun _ s2 => s2 = s) E s') E s)
    (h2 : wpAny M A tail Q E s) : wpAny M A (if c then x >>= fun a => f a >>= fun _ => tail else tail) Q E s := by
  split
  · exact wpAny_bind (wpAny_mono h1 (fun a s' h => wpAny_bind (wpAny_mono h (fun _ s2 e => by rw [e]; exact h2) fun _ _ e => e)) fun _ _ e => e)
  · exact h2
theorem merge_fresh {d o : Addr} {l more : List (κ × Value)} {Q : Unit → Shared → Prop} (hdo : d ≠ o) (hoS : (o == sysModules) = false) (hd : s.heap.DictOf knd d l) (ho : s.heap.DictOf knd o more)
    (nd : ((l ++ more).map (·.1)).Nodup) (hz : l.length + more.length ≤ sizeLine) (hQ : ∀ h', h'.DictOf knd d (l ++ more) → Heap.SameBut d s.heap h' → Q () { s with heap := h' }) : wpAny (model P w) A (mergeMapping d (.ref o) false) Q E s := by
  have hT := ho.typeIs
  obtain ⟨oo, eo, po, hoo, hxo, hdd, hko, hpo, ndo⟩ := id ho
  obtain ⟨od, ed, pd, hod, _, hde, _⟩ := id hd
  have z1 := hpo.length
  have z2 : eo.toList.length = eo.size := Array.length_toList
  have hlen : eo.size = more.length := by omega
  unfold mergeMapping
  refine wpAny_bind (wpAny_isInstance hT isSubtype_dict_dict ?_)
  dsimp only
  rw [if_pos rfl]
  refine wpAny_bind (wpAny_specialOf hT F.slot_dict_iter.lookup (wpAny_bind (wpAny_pure ?_)))
  simp only [beq_self_eq_true]
  rw [if_neg (by rw [hoS]; exact Bool.false_ne_true)]
  refine wpAny_bind (wpAny_dictEntries hod hde (ite_tail ?_ ?_))
  · refine wpAny_dictEntries hoo hdd ?_
    rw [← Array.forIn_toList]
    refine wpAny_forIn_list _ (fun rest _ s' => s' = s ∧ ∀ e ∈ rest, carriedByValue e.key = true) _ ?_ (fun _ s' h => h.1) _ _ ⟨rfl, fun e he => ?_⟩
    · rintro e rest b s' ⟨rfl, hall⟩
      have hc := hall e (List.mem_cons_self ..)
      cases hk : e.key with
      | ref a => rw [hk] at hc; cases hc
      | _ => exact wpAny_pure ⟨rfl, fun x hx => hall x (List.mem_cons_of_mem _ hx)⟩
    · obtain ⟨k, h1, _⟩ := hko e (Array.mem_toList_iff.mp he)
      exact knd.byValue k _ h1
  · refine wpAny_bind (wpAny_dictEntries hoo hdd ?_)
    refine wpAny_bind (wpAny_dictEpoch hoo hdd (wpAny_bind ?_))
    rw [List.range_eq_range']
    refine wpAny_forIn_list _ (fun rest _ s' => ∃ h' i, s' = { s with heap := h' } ∧ rest = List.range' i (eo.size - i) ∧ i ≤ eo.size ∧ h'.DictOf knd d (l ++ more.take i) ∧ h'.get? o = some oo ∧ Heap.SameBut d s.heap h') _ ?_ ?_ _ _ ⟨s.heap, 0, rfl, rfl, Nat.zero_le _, by rw [List.take_zero, List.append_nil]; exact hd, hoo, Heap.SameBut.refl _ _⟩
    · rintro x rest b s' ⟨h', i, rfl, hr, hi, hd', hoo', sb⟩
      have hlt : i < eo.size := by
        rcases Nat.lt_or_ge i eo.size with h | h
        · exact h
        · rw [Nat.sub_eq_zero_of_le h] at hr; cases hr
      rw [show eo.size - i = (eo.size - (i + 1)) + 1 by omega, List.range'_succ] at hr
      obtain ⟨rfl, rfl⟩ := List.cons.inj hr
      obtain ⟨e, k, v, g1, g2, g3, g4⟩ := pairs_at hpo x (by omega)
      rw [Array.getElem?_toList] at g1
      obtain ⟨k2, q1, q2⟩ := hko e (Array.mem_of_getElem? g1)
      cases knd.inj _ _ _ g3 q1
      subst g4
      refine wpAny_bind (wpAny_dictEntries (s := { s with heap := h' }) hoo' hdd ?_)
      rw [g1]
      dsimp only
      rw [if_neg Bool.false_ne_true, q2]
      have tk : more.take (x + 1) = more.take x ++ [(k, e.val)] := by
        rw [List.take_add_one, g2]
        rfl
      have nk : k ∉ (l ++ more.take x).map (·.1) := fun hm => by
        have e1 : more = more.take x ++ (k, e.val) :: more.drop (x + 1) := by
          obtain ⟨hx2, g2'⟩ := List.getElem?_eq_some_iff.mp g2
          rw [← g2', ← List.drop_eq_getElem_cons hx2, List.take_append_drop]
        rw [e1, ← List.append_assoc, List.map_append, List.nodup_append] at nd
        exact nd.2.2 k hm k (List.mem_cons_self ..) rfl
      refine wpAny_bind (wpAny_holding (put_fresh (s := { s with heap := h' }) g3 hd' nk ?_ fun h2 hd2 sb2 => ?_))
      · rw [List.length_append, List.length_take]; omega
      have hoo2 : h2.get? o = some oo := (sb2.2 o (Ne.symm hdo)).trans hoo'
      refine wpAny_bind (wpAny_dictEpoch (s := { s with heap := h2 }) hoo2 hdd ?_)
      rw [if_neg (by simp)]
      exact wpAny_pure ⟨h2, x + 1, rfl, rfl, hlt, by rw [tk, ← List.append_assoc]; exact hd2, hoo2, sb.trans sb2⟩
    · rintro b s' ⟨h', i, rfl, hr, hi, hd', _, sb⟩
      have e : i = eo.size := by
        rcases Nat.lt_or_ge i eo.size with h | h
        · rw [show eo.size - i = (eo.size - (i + 1)) + 1 by omega, List.range'_succ] at hr; cases hr
        · omega
      rw [e, hlen, List.take_length] at hd'
      exact wpAny_pure (hQ h' hd' sb)
end
end Fx

namespace Fx
open PySem PySem.Spec PyProof.Rows L2 Evl Lk
/-! ### {**d, k: v}, as rules -/
def tStar (td tk tv : TE) : TE := fun σ H Q => ∀ d, H d = none → td σ (upd H d (.dK [])) fun x H1 => ∃ a kvs, x = .ref a ∧ Rd H1 a (.dK kvs) ∧ a ≠ d ∧ H1 d = some (.dK []) ∧ kvs.length ≤ 4000 ∧
  ∀ p, upd H1 d (.dK kvs) p = none → tk σ (upd (upd H1 d (.dK kvs)) p (.dK [])) fun y H2 => tv σ H2 fun v H3 => ∃ k : Key, y = kV k ∧ H3 p = some (.dK []) ∧ H3 d = some (.dK kvs) ∧ k ∉ kvs.map (·.1) ∧ Q (.ref d) (upd (upd H3 p (.dK [(k, v)])) d (.dK (kvs ++ [(k, v)])))
theorem kv_keys {l : List (Key × V)} {vs : List (Key × Value)} (h : KV l vs) : vs.map (·.1) = l.map (·.1) := by
  unfold KV at h
  induction h with
  | nil => rfl
  | cons a _ ih => rw [List.map_cons, List.map_cons, ih, a.1]
theorem kv_snoc {l : List (Key × V)} {vs : List (Key × Value)} {k : Key} {v : V} {u : Value} (h : KV l vs) (r : RelV v u) : KV (l ++ [(k, v)]) (vs ++ [(k, u)]) := by
  unfold KV at h ⊢
  induction h with
  | nil => exact .cons ⟨rfl, r⟩ .nil
  | cons a _ ih => exact .cons a ih
theorem kv_len {l : List (Key × V)} {vs : List (Key × Value)} (h : KV l vs) : vs.length = l.length := by
  have := congrArg List.length (kv_keys h)
  rwa [List.length_map, List.length_map] at this
theorem dict_nd {P : Program} {w : World} {κ : Type} [DecidableEq κ] {knd : KeyKind P w κ} {h : Heap} {a : Addr} {l : List (κ × Value)} (x : h.DictOf knd a l) : (l.map (·.1)).Nodup := let ⟨_, _, _, _, _, _, _, _, n⟩ := x; n
theorem dict_at {P : Program} {w : World} {κ : Type} [DecidableEq κ] {knd : KeyKind P w κ} {h : Heap} {a : Addr} {l : List (κ × Value)} (x : h.DictOf knd a l) : ∃ q, h.get? a = some q := let ⟨q, _, _, n, _⟩ := x; ⟨q, n⟩
section
variable {X : Cx} {de ke ve : Expr} {td tk tv : TE} {pos : Pos}
theorem pe_star (hd : PE X de td) (hk : PE X ke tk) (hv : PE X ve tv) : PE X (.Dict [none, some ke] [de, ve] pos) (tStar td tk tv) := by
  refine ⟨fun pins s σ H Q I h => ?_⟩
  rw [arm_eval_Dict]
  refine wpAny_bind (wpAny_standAt ?_)
  show wpAny _ _ (dictDisplay [(none, do let x ← eval de X.env; standAt pos; pure x), (some (eval ke X.env), do let x ← eval ve X.env; standAt pos; pure x)]) _ _ _
  unfold dictDisplay
  dsimp only
  simp only [List.forIn_cons, List.forIn_nil, pure_bind, bind_assoc, List.isEmpty_nil, List.nil_append, if_true]
  refine wpAny_bind (wpAny_alloc ?_)
  have hn := I.hok.fresh (Nat.le_refl s.heap.objs.size)
  have I1 := I.laid (a := s.heap.objs.size) (o := .dK []) (t' := s.toks) (h' := s.heap.push { cls := .type "dict", data := .dict #[] }) (fun _ _ z => Heap.get?_push_of_some _ z) (Nat.le_refl _) (dk_empty s.heap I.big)
  have h := h _ hn
  generalize s.heap.objs.size = d at h I1 ⊢
  refine wpAny_bind (wpAny_holding (wpAny_bind (thn (hd.run pins _ σ _ _ I1 h) fun u s2 ⟨x, H1, I2, rx, a, kvs, ex, rd, ne, hd1, hl, q⟩ => wpAny_bind (wpAny_standAt (wpAny_pure ?_)))))
  subst ex
  obtain rfl : u = Value.ref a := rx
  obtain ⟨za, ha, vs, rel, da⟩ := dk_rd I2.hok rd
  obtain ⟨zd, hdd, vs0, rel0, dd⟩ := dk_of I2.hok hd1
  cases rel0
  have nda := dict_nd da
  have hlv := kv_len rel
  refine wpAny_bind (wpAny_onRaise (wpAny_tryCatch (wpAny_onRaise (wpAny_holding (merge_fresh (Ne.symm ne) ha dd da (by rw [List.nil_append]; exact nda) (by rw [sizeLine_eq, List.length_nil]; omega) fun h1 dd1 sb1 => ?_)))))
  rw [List.nil_append] at dd1
  have I3 := d_write (t' := s2.toks) I2 (by rw [hd1]; exact True.intro) sb1 (dict_at dd1) (dk_new (H' := upd H1 d (.dK kvs)) za hdd rel dd1)
  generalize hs3 : ({ s2 with heap := h1, toks := s2.toks } : Shared) = s3 at I3
  rw [if_neg (by exact Bool.false_ne_true)]
  refine wpAny_bind (wpAny_pure ?_)
  dsimp only
  refine wpAny_bind (wpAny_pure ?_)
  dsimp only
  rw [if_neg (by exact Bool.false_ne_true)]
  have hnp := I3.hok.fresh (Nat.le_refl s3.heap.objs.size)
  have I4 := I3.laid (a := s3.heap.objs.size) (o := .dK []) (t' := s3.toks) (h' := s3.heap.push { cls := .type "dict", data := .dict #[] }) (fun _ _ z => Heap.get?_push_of_some _ z) (Nat.le_refl _) (dk_empty s3.heap I3.big)
  have q := q _ hnp
  have hnd : s3.heap.objs.size ≠ d := fun e => by rw [e, upd_same] at hnp; cases hnp
  refine wpAny_bind (wpAny_bind (wpAny_holding (wpAny_subDict (knd := mixKind X.prog X.w) (Nat.le_of_ble_eq_true rfl) ?_)))
  generalize s3.heap.objs.size = p at q I4 hnd ⊢
  refine evalPairs_cons (thn (hk.run pins _ σ _ _ I4 q) fun u2 s5 ⟨y, H2, I5, ry, q⟩ => wpAny_bind (thn (hv.run pins s5 σ H2 _ I5 q) fun u3 s6 ⟨v, H3, I6, rv, k, ey, hp3, hd3, nk, q9⟩ => wpAny_bind (wpAny_standAt ?_)))
  refine wpAny_pure (evalPairs_nil ?_)
  subst ey
  obtain ⟨zp, hpp, vs1, rel1, dp⟩ := dk_of I6.hok hp3
  cases rel1
  refine ⟨[(k, u3)], ⟨kV_is ry, rfl, True.intro⟩, dp, fun h2 d2 sb2 => ?_⟩
  have nd1 : ([((k, u3) : Key × Value)].map (·.1)).Nodup := List.nodup_cons.mpr ⟨nofun, .nil⟩
  rw [show merged [] [((k, u3) : Key × Value)] = [(k, u3)] from rfl] at d2
  have I7 := d_write (t' := s6.toks + 1) I6 (by rw [hp3]; exact True.intro) sb2 (dict_at d2) (dk_new (H' := upd H3 p (.dK [(k, v)])) (kvs := [(k, v)]) (Nat.le_trans (Nat.le_of_ble_eq_true rfl) (show 4000 ≤ sizeLine by rw [sizeLine_eq]; omega)) hpp (.cons ⟨rfl, rv⟩ .nil) d2)
  have e7 : upd H3 p (.dK [(k, v)]) d = some (.dK kvs) := by rw [upd_ne (Ne.symm hnd)]; exact hd3
  obtain ⟨zd7, hd7, vs7, rel7, dd7⟩ := dk_of I7.hok e7
  have ks7 := kv_keys rel7
  have kl7 := kv_len rel7
  refine wpAny_bind (wpAny_onRaise (wpAny_holding (merge_fresh (Ne.symm hnd) hpp dd7 d2 ?_ ?_ fun h3 d3 sb3 => ?_)))
  · rw [List.map_append, ks7]
    exact List.nodup_append.mpr ⟨by rw [← ks7]; exact dict_nd dd7, nd1, fun x hx y hy e => nk (by have e2 : y = k := List.mem_singleton.mp hy; rw [← e2, ← e]; exact hx)⟩
  · rw [sizeLine_eq, kl7, List.length_singleton]; omega
  refine wpAny_pure (wpAny_pure ?_)
  have I8 := d_write (t' := s6.toks + 1) I7 (by rw [e7]; exact True.intro) sb3 (dict_at d3) (dk_new (H' := upd (upd H3 p (.dK [(k, v)])) d (.dK (kvs ++ [(k, v)]))) (kvs := kvs ++ [(k, v)]) (by rw [List.length_append, List.length_singleton, sizeLine_eq]; omega) hd7 (kv_snoc rel7 rv) d3)
  exact ⟨.ref d, _, I8, rfl, q9⟩
end
end Fx

namespace Fx
open PySem PySem.Spec PyProof.Rows L2 Evl Lk
/-! ### {**d, k: v} of a dict value, an owned dict -/
section
variable {G : Gx} {T T1 T2 : Addr → Prop} {H H1 H2 : Hp} {σ : L2.St} {env e e2 : Env} {F F1 F2 : Nat → List Addr} {p : Addr} {ob ob1 : HO}
theorem att_put (t : Trk T H) (a : Att G σ T H env F T1 H1 e F1) (np : H p = none) (tp : T1 p) (g0 : G.P0 p ∨ G.H0 p = none) (far : ∀ k, IsS e k → p ∉ F1 k) : Att G σ T H env F T1 (upd H1 p ob) e F1 := by
  have c : Chg T1 H1 (fun x => x = p) T1 (upd H1 p ob) := Chg.write a.re.trk rfl
  exact ⟨a.chg.trans t c fun a ha => .inr (by rw [ha]; exact np), a.re.chg c (fun a ha => by rw [ha]; exact tp) (fun a ha => by rw [ha]; exact g0) fun i hi a ha z => far i hi (by rw [← z]; exact ha), a.own, a.vw⟩
theorem hid_put (t : Trk T1 H1) (tp : T1 p) : Ex (hid T1 H1) (hid T1 (upd H1 p ob)) := by
  have c : Chg T1 H1 (fun x => x = p) T1 (upd H1 p ob) := Chg.write t rfl
  exact c.hid fun a ha => by rw [ha]; exact tp
theorem att_hold (b : Att G σ T1 H1 e F1 T2 H2 e2 F2) (tp : T1 p) (hp : H1 p = some ob) (far : ∀ k, IsS e k → p ∉ F1 k) : H2 p = some ob ∧ T2 p ∧ ∀ k, IsS e2 k → p ∉ F2 k := by
  have nown : ¬ OwnP e F1 p := fun ⟨i, ⟨o, hi⟩, hF⟩ => far i ⟨_, hi⟩ hF
  exact ⟨b.chg.keep p _ hp nown, b.chg.tk p tp nown, att_far b (by rw [hp]; exact nofun) far⟩
end
def wStar (wd wk wv : WE) : WE := fun env Q => wd env fun r e => ∃ ks ds, r = .f (.dic ks ds) ∧ ks.length ≤ 4000 ∧ wk e fun r2 e2 => ∃ k : Key, r2 = .f (dK k) ∧ k ∉ ks ∧ wv e2 fun r3 e3 => ∃ dv, r3 = .f dv ∧ Q (.own (.dic (ks ++ [k]) ((ds ++ [dv]).map O.f))) e3
section
variable {X : Cx} {G : Gx} {de ke ve : Expr} {wd wk wv : WE} {pos : Pos}
theorem fzl_snoc {K : PySem.W.Frag} {H : Hp} {v : V} {d : D} (h : Fz K H v d) : ∀ {vs : List V} {ds : List D}, FzL K H vs ds → FzL K H (vs ++ [v]) (ds ++ [d])
  | _, _, .nil => .cons h .nil
  | _, _, .cons a b => .cons a (fzl_snoc h b)
theorem ge_star (hd : GE X G de wd) (hk : GE X G ke wk) (hv : GE X G ve wv) : GE X G (.Dict [none, some ke] [de, ve] pos) (wStar wd wk wv) := by
  refine ⟨pe_imp (pe_star hd.pe hk.pe hv.pe) fun σ H Q ⟨T, env, F, r, q⟩ => ?_, fun env Q Q' i q => hd.mono _ _ _ (fun s e ⟨ks, ds, h1, h2, q⟩ => ⟨ks, ds, h1, h2, hk.mono _ _ _ (fun s e ⟨k, h1, h2, q⟩ => ⟨k, h1, h2, hv.mono _ _ _ (fun s e ⟨d, h1, q⟩ => ⟨d, h1, i _ _ q⟩) q⟩) q⟩) q⟩
  intro d nd
  have a0 := att_new (o := HO.dK []) r nd
  have g0 : ∀ {p}, H p = none → G.P0 p ∨ G.H0 p = none := fun {p} np => .inr (by
    cases e : G.H0 p with
    | none => rfl
    | some u => exact absurd np (r.st.dom p (by rw [e]; exact nofun)))
  have far0 : ∀ k, IsS env k → d ∉ F k := fun k ⟨s, hs⟩ hF => by
    obtain ⟨v, _, z⟩ := r.slot k s hs
    exact r.trk d (z.sub d hF) nd
  refine ⟨_, env, F, a0.re, hd.mono _ _ _ (fun s e ⟨ks, ds, hs, hl, q⟩ x T1 H1 F1 f1 a1 z1 => ?_) q⟩
  subst hs
  obtain ⟨hd1, td1, far1⟩ := att_hold a1 (.inr rfl) upd_same far0
  have fz1 : Fz G.K (hid T1 H1) x (.dic ks ds) := z1.rel.1
  cases fz1 with
  | dic l hll f =>
    rename_i a vs
    have un : Rd H1 a (.dK (ks.zip vs)) := by
      rcases l with l | ⟨o, l⟩
      · exact .inl (hid_some l).1
      · exact .inr ⟨o, (hid_some l).1⟩
    have nt : ¬ T1 a := by
      rcases l with l | ⟨o, l⟩
      · exact (hid_some l).2
      · exact (hid_some l).2
    have kz : (ks.zip vs).map (·.1) = ks := List.map_fst_zip (Nat.le_of_eq hll)
    have A1 := a0.trans r.trk a1
    have B1 := att_put (ob := .dK (ks.zip vs)) r.trk A1 nd td1 (g0 nd) far1
    refine ⟨a, ks.zip vs, rfl, un, fun e => nt (by rw [e]; exact td1), hd1, by rw [List.length_zip, ← hll, Nat.min_self]; exact hl, fun p np => ?_⟩
    have pd : p ≠ d := fun e => by rw [e, upd_same] at np; cases np
    have np0 : H p = none := by
      cases e : H p with
      | none => rfl
      | some u => exact absurd np (B1.chg.dom p (by rw [e]; exact nofun))
    have b0 := att_new (o := HO.dK []) B1.re np
    have B2 := B1.trans r.trk b0
    obtain ⟨hd2, td2, fard2⟩ := att_hold b0 td1 upd_same far1
    have farp2 : ∀ k, IsS e k → p ∉ F1 k := fun k ⟨s, hs⟩ hF => by
      obtain ⟨v, _, z⟩ := B1.re.slot k s hs
      exact B1.re.trk p (z.sub p hF) np
    refine ⟨_, e, F1, b0.re, hk.mono _ _ _ (fun s2 e2 ⟨k, hk1, nk, q⟩ y T2 H2 F2 f2 a2 z2 => ?_) q⟩
    subst hk1
    have ey := fz_dK z2.rel.1
    subst ey
    obtain ⟨hd3, td3, fard3⟩ := att_hold a2 td2 hd2 fard2
    obtain ⟨hp3, tp3, farp3⟩ := att_hold a2 (.inr rfl) upd_same farp2
    refine ⟨T2, e2, F2, a2.re, hv.mono _ _ _ (fun s3 e3 ⟨dv, hs3, q⟩ v T3 H3 F3 f3 a3 z3 => ?_) q⟩
    subst hs3
    obtain ⟨hd4, td4, fard4⟩ := att_hold a3 td3 hd3 fard3
    obtain ⟨hp4, tp4, farp4⟩ := att_hold a3 tp3 hp3 farp3
    have fv : Fz G.K (hid T3 H3) v dv := z3.rel.1
    refine ⟨k, rfl, hp4, hd4, by rw [kz]; exact nk, ?_⟩
    have C := (B2.trans r.trk a2).trans r.trk a3
    have D1 := att_put (ob := .dK [(k, v)]) r.trk C np0 tp4 (g0 np0) farp4
    have D2 := att_put (ob := .dK (ks.zip vs ++ [(k, v)])) r.trk D1 nd td4 (g0 nd) fard4
    have x1 := hid_put (ob := .dK (ks.zip vs)) A1.re.trk td1
    have x2 := b0.chg.hid B1.re.sub
    have x3 := a2.chg.hid b0.re.sub
    have x4 := a3.chg.hid a2.re.sub
    have x5 := hid_put (ob := .dK [(k, v)]) C.re.trk tp4
    have x6 := hid_put (ob := .dK (ks.zip vs ++ [(k, v)])) D1.re.trk td4
    have ff := ((((f.ex x1).ex x2).ex x3).ex x4).ex x5 |>.ex x6
    have fz := fzl_snoc ((fv.ex x5).ex x6) ff
    have ol := owl_fs fz
    have zz : ks.zip vs ++ [(k, v)] = (ks ++ [k]).zip (vs ++ [v]) := by rw [List.zip_append hll]; rfl
    have hdf : (upd (upd H3 p (.dK [(k, v)])) d (.dK (ks.zip vs ++ [(k, v)]))) d = some (.dK ((ks ++ [k]).zip (vs ++ [v]))) := by rw [upd_same, zz]
    exact q (.ref d) T3 _ F3 [d] D2 ⟨.dic (fp := []) td4 hdf (by rw [List.length_append, List.length_append, hll]; rfl) ol nofun, fun _ _ i hi a ha => by rw [List.mem_singleton.mp ha]; exact fard4 i hi, fun _ _ a ha => .inr (by rw [List.mem_singleton.mp ha]; exact nd)⟩
end
section
variable {wd wk wv : WE} {env : Env} {Q : Sl → Env → Prop}
theorem x_dstar (h : wd env fun r e => ∃ ks ds, r = .f (.dic ks ds) ∧ ks.length ≤ 4000 ∧ wk e fun r2 e2 => ∃ k : Key, r2 = .f (dK k) ∧ k ∉ ks ∧ wv e2 fun r3 e3 => ∃ dv, r3 = .f dv ∧ Q (.own (.dic (ks ++ [k]) ((ds ++ [dv]).map O.f))) e3) : wStar wd wk wv env Q := h
end
end Fx

namespace Fx
open PySem PySem.Spec PyProof.Rows L2 Evl Lk
/-! ### {text for .. in .. if ..}: a set of texts -/
abbrev SetT (P : Program) (w : World) (h : Heap) (a : Addr) (S : Str → Bool) (n : Nat) : Prop := SO.SetS (PySem.strKind P w) h a S n
def SetTO (P : Program) (w : World) (a : Addr) (S : Str → Bool) (n : Nat) : HO := .ext fun h => SetT P w h a S n
theorem setT_at {P : Program} {w : World} {h h' : Heap} {a : Addr} {S : Str → Bool} {n : Nat} (R : SetT P w h a S n) (k : ∀ o, h.get? a = some o → h'.get? a = some o) : SetT P w h' a S n := by
  obtain ⟨o, es, ep, t, ho, r⟩ := R
  exact ⟨o, es, ep, t, k o ho, r⟩
theorem setT_there {P : Program} {w : World} {h : Heap} {a : Addr} {S : Str → Bool} {n : Nat} (R : SetT P w h a S n) : ∃ o, h.get? a = some o := let ⟨o, _, _, _, ho, _⟩ := R; ⟨o, ho⟩
theorem setTO_new {P : Program} {w : World} {H : Hp} {h : Heap} {a : Addr} {S : Str → Bool} {n : Nat} (R : SetT P w h a S n) : ObjOk P w H h a (SetTO P w a S n) := ⟨R, setT_there R, fun h1 h2 p k => setT_at p k⟩
theorem addT_call {P : Program} {w : World} {A : Around} {E : Value → Shared → Prop} {s : Shared} {a : Addr} {S : Str → Bool} {n : Nat} {x : Str} {t : Tok} {Q : Value → Shared → Prop} (R : SetT P w s.heap a S n) (room : n + 1 < scanBound)
    (hQ : ∀ h', Heap.SameBut a s.heap h' → SetT P w h' a (fun j => S j || decide (j = x)) (if S x = true then n else n + 1) → Q .none { s with heap := h', toks := s.toks + 1 }) : wpAny (model P w) A (call (.builtin "set.add") [.ref a, .str x t]) Q E s := by
  have kx : (PySem.strKind P w).is x (.str x t) = true := keyIs_str x t
  refine wpAny_call_entry F.slot_set_add R.setOf.typeIs F.entry_set_add ?_ (F.args_set_add_2 _ _)
  unfold Builtin.«set.add» Builtin.Frozenset.oneOther Builtin.Frozenset.addrOf setAdd
  simp only [List.isEmpty_nil, bind_assoc]
  refine wpAny_bind (wpAny_pure ?_)
  try dsimp only
  refine wpAny_bind (wpAny_pure ?_)
  try dsimp only
  refine wpAny_bind (wpAny_holding (wpAny_bind ((PySem.strKind P w).pyHash kx ?_)))
  refine SO.add_hashed (s := { s with toks := s.toks + 1 }) kx rfl R room fun h' sb r => ?_
  exact wpAny_pure ⟨_, rfl, hQ h' sb r⟩
section
variable {X : Cx}
theorem addT_ok {pins : List (Addr × Obj)} {σ : L2.St} {H : Hp} {s : Shared} {E : Value → Shared → Prop} {D : Addr} {S : Str → Bool} {n : Nat} {x : Str} {t : Tok} {Q : Value → Shared → Prop} (I : Inv X pins σ H s) (hD : H D = some (SetTO X.prog X.w D S n)) (room : n + 1 < scanBound)
    (h : ∀ s', Inv X pins σ (upd H D (SetTO X.prog X.w D (fun j => S j || decide (j = x)) (if S x = true then n else n + 1))) s' → Q .none s') : wpAny (model X.prog X.w) X.A (call (.builtin "set.add") [.ref D, .str x t]) Q E s := by
  have R : SetT X.prog X.w s.heap D S n := (I.hok D _ hD).1
  refine addT_call R room fun h' sb new => ?_
  exact h _ (I.write (e := D) (t' := s.toks + 1) (by rw [hD]; exact True.intro) (.inl rfl) (fun b u hb hu => (sb.2 b hb).trans hu) (setT_there new) (setTO_new new))
def NewT (X : Cx) (D : Addr) : HO := SetTO X.prog X.w D (fun _ => false) 0
def AddT (X : Cx) (D : Addr) (S : Str → Bool) (n : Nat) (x : Str) : HO := SetTO X.prog X.w D (fun j => S j || decide (j = x)) (if S x = true then n else n + 1)
def stepT (X : Cx) (D : Addr) (g : TG) (tt : TT) (te : TE) (vs : List Nat) (σ : L2.St) (x : V) (H' : Hp) (Nx : Hp → Prop) : Prop := g x (wipe σ vs) H' fun σ2 H2 => wipe σ2 vs = wipe σ vs ∧ tt σ2 H2 fun b H3 =>
  if b = true then te σ2 H3 fun y H4 => ∃ (x : Str) (S : Str → Bool) (n : Nat), y = .str x ∧ H4 D = some (SetTO X.prog X.w D S n) ∧ n + 1 < scanBound ∧ Nx (upd H4 D (AddT X D S n x)) else Nx H3
def tScT (X : Cx) (wi : TI) (g : TG) (tt : TT) (te : TE) (vs : List Nat) (σ : L2.St) (H : Hp) (Q : Addr → Hp → Prop) : Prop := wi σ H fun J H1 => ∀ D, H1 D = none → ∃ W : Nat → Nat → Hp → Prop, (∃ m, W 0 m (upd H1 D (NewT X D))) ∧ ∀ i m H, W i m H →
  (J.stop i H ∧ Q D H) ∨ (J.go i H ∧ ∃ Nx : Hp → Prop, (∀ H', Nx H' → ∃ m', m' < m ∧ W (i + 1) m' H') ∧ ∀ x H', J.yld i H x H' → stepT X D g tt te vs σ x H' Nx)
abbrev InBlk (X : Cx) (scope : Scope) (f : Cx → Prop) : Prop := ∀ (s : Shared) (H : Hp) (C : Addr) (cl : List (PySem.Str × Addr)) (fp : List Addr), f (X.blk s H scope (compEnvC scope cl C X.env) fp)
theorem scT_core {pins : List (Addr × Obj)} {s : Shared} {σ : L2.St} {H : Hp} {Q : Addr → Hp → Prop} {elt tg iter : Expr} {ifs : List Expr} {scope : Scope} {own : List (PySem.Str × Nat)} {pos pos' : Pos} {wi : TI} {g : TG} {tt : TT} {te : TE} {Qf : Value → Shared → Prop}
    (hc : X.calm = true) (hN : X.N.Nodup) (I : Inv X pins σ H s) (hi : PI X tg iter wi) (ok : BlkOk X.N X.env.scope scope own) (hg : InBlk X scope fun Y => PG Y tg g) (ht : InBlk X scope fun Y => PTs Y ifs tt) (he : InBlk X scope fun Y => PE Y elt te)
    (hs : ∀ x, foldedSetIterable iter X.env x = pure x) (h : tScT X wi g tt te (own.map (·.2)) σ H Q)
    (hRR : ∀ D C s' m H', Inv X pins σ H' s' → Q D H' → s'.heap.Ns C m → FpOk X pins H' C → compPost (model X.prog X.w) X.A X.xe none Qf (.ref D) C (.ok .next) s') :
    wpAny (model X.prog X.w) X.A (comprehension (.SetComp elt [⟨tg, iter, ifs, 0⟩] scope pos) scope X.env pos' (newSet (.type "set")) false (eval iter X.env) none) Qf X.xe s := by
  have hfree : ∀ y ∈ scope.names, y.2 = .free → ∃ c, X.env.cells.lookup y.1 = some c := fun y hy e => (ok.free y hy e).elim (fun k => I.ok.has _ (.inl k)) fun k => I.ok.has _ (.inr k)
  refine wpAny_comprehension_free (use := none) rfl hs (closure_ok hfree) ok.kind (fun y hy e => by rw [ok.uniq y hy, e]) ?_
  refine thn (hi.run pins s σ H _ I h) fun xv s1 hx => thn hx fun itv s2 ⟨it, fp, tn, J, H2, e, I2, T, st2, f2, q⟩ => ?_
  subst e
  refine PpSet.newSet_ok (newEnv_comp ?_)
  have hDn : H2 s2.heap.objs.size = none := I2.hok.fresh (Nat.le_refl _)
  obtain ⟨W, ⟨m0, w0⟩, turn⟩ := q s2.heap.objs.size hDn
  have fr : SetT X.prog X.w (s2.heap.push { cls := .type "set", dict := none, data := .set #[] 0 (.fresh 0 0 (!X.w.params.followText "set-order")) }) s2.heap.objs.size (fun _ => false) 0 := SO.setS_fresh (Heap.get?_push_size _ rfl) rfl
  have I3 := I2.laid (a := s2.heap.objs.size) (o := NewT X s2.heap.objs.size) (h' := s2.heap.push { cls := .type "set", dict := none, data := .set #[] 0 (.fresh 0 0 (!X.w.params.followText "set-order")) }) (t' := s2.toks) (fun b o e => Heap.get?_push_of_some _ e) (Nat.le_refl _) (setTO_new fr)
  have sz : ∀ b ∈ fp, b < s2.heap.objs.size := fun b hb => by
    obtain ⟨o, e, _⟩ := T.obj _ _ st2 b hb
    exact Heap.lt_size e
  have f3 : ∀ b ∈ fp, FpOk X pins (upd H2 s2.heap.objs.size (NewT X s2.heap.objs.size)) b ∧ b < s2.heap.objs.size + 1 := fun b hb =>
    ⟨⟨by rw [upd_ne (Nat.ne_of_lt (sz b hb))]; exact (f2 b hb).1, (f2 b hb).2⟩, Nat.lt_succ_of_lt (sz b hb)⟩
  have st3 := T.keep _ _ (s2.heap.push { cls := .type "set", dict := none, data := .set #[] 0 (.fresh 0 0 (!X.w.params.followText "set-order")) }) st2 fun b _ o e => Heap.get?_push_of_some _ e
  have zz := Heap.size_push s2.heap { cls := .type "set", dict := none, data := .set #[] 0 (.fresh 0 0 (!X.w.params.followText "set-order")) }
  generalize hs3 : ({ s2 with heap := s2.heap.push { cls := .type "set", dict := none, data := .set #[] 0 (.fresh 0 0 (!X.w.params.followText "set-order")) }, toks := s2.toks } : Shared) = s3 at I3
  have h3 : s3.heap = s2.heap.push { cls := .type "set", dict := none, data := .set #[] 0 (.fresh 0 0 (!X.w.params.followText "set-order")) } := by rw [← hs3]
  rw [← h3] at st3 zz
  rw [← zz] at f3
  generalize s2.heap.objs.size = D at hDn turn w0 I3 f3
  have I4 := block_start I3 ok hN f3
  have pg := hg s3 (upd H2 D (NewT X D)) s3.heap.objs.size (cellsFrom (s3.heap.objs.size + 1) scope.names (cloFrom X.env.cells scope.names [])) fp
  have pt := ht s3 (upd H2 D (NewT X D)) s3.heap.objs.size (cellsFrom (s3.heap.objs.size + 1) scope.names (cloFrom X.env.cells scope.names [])) fp
  have pe := he s3 (upd H2 D (NewT X D)) s3.heap.objs.size (cellsFrom (s3.heap.objs.size + 1) scope.names (cloFrom X.env.cells scope.names [])) fp
  have nfp : ∀ b ∈ fp, (upd H2 D (NewT X D)) b = none := fun b hb => (f3 b hb).1.1
  have hz3 : s2.heap.push { cls := .type "set", dict := none, data := .set #[] 0 (.fresh 0 0 (!X.w.params.followText "set-order")) } = s3.heap := h3.symm
  try rw [hz3]
  show codeAny _ _ (.compStart (.SetComp elt [⟨tg, iter, ifs, 0⟩] scope pos) 0 (.ref it) (.ref D) (compEnvC scope (cellsFrom (s3.heap.objs.size + 1) scope.names (cloFrom X.env.cells scope.names [])) s3.heap.objs.size X.env)) (compPost (model X.prog X.w) X.A X.xe none Qf (.ref D) s3.heap.objs.size) { s3 with heap := pushCells (s3.heap.push { cls := .type "dict", data := .dict #[] }) scope.names }
  generalize hce : compEnvC scope (cellsFrom (s3.heap.objs.size + 1) scope.names (cloFrom X.env.cells scope.names [])) s3.heap.objs.size X.env = ce at I4 pg pt pe ⊢
  have cL : ce.locals = s3.heap.objs.size := by rw [← hce]; rfl
  generalize hH3 : upd H2 D (NewT X D) = H3 at I3 I4 pg pt pe w0 nfp f3
  generalize hs4 : ({ s3 with heap := pushCells (s3.heap.push { cls := .type "dict", data := .dict #[] }) scope.names } : Shared) = s4 at I4 ⊢
  have st4 : tn 0 s4.heap := T.keep _ _ _ st3 fun b _ o e => by rw [← hs4]; exact pushCells_keeps _ _ _ _ (Heap.get?_push_of_some _ e)
  have stat : ∀ {σ' : L2.St} {H' : Hp} {s' : Shared}, Inv (X.blk s3 H3 scope ce fp) [] σ' H' s' → (∀ b ∈ fp, H' b = none) → ∀ b ∈ fp, FpOk (X.blk s3 H3 scope ce fp) [] H' b := by
    intro σ' H' s' I' hn b hb
    exact ⟨hn b hb, (I'.ok.exf b hb).1, I'.ok.exfs b hb, .inl hb, fun x c e => (I'.ok.exf b hb).2 x c e, fun p hp => (nomatch (show p ∈ ([] : List (Addr × Obj)) ++ [] from hp))⟩
  have loop : codeAny (model X.prog X.w) X.A (.compLoop (.SetComp elt [⟨tg, iter, ifs, 0⟩] scope pos) 0 (.ref it) (.ref D) ce) (compPost (model X.prog X.w) X.A X.xe none Qf (.ref D) s3.heap.objs.size) s4 := by
    refine PpSet.compLoopS_any (fun n s' => ∃ i H', Inv (X.blk s3 H3 scope ce fp) [] (wipe σ (own.map (·.2))) H' s' ∧ tn i s'.heap ∧ (∀ b ∈ fp, H' b = none) ∧ W i n H') ?_ m0 ⟨0, H3, I4, st4, nfp, w0⟩
    rintro n s5 ⟨i, H5, I5, st5, n5, w5⟩
    rcases turn i n H5 w5 with ⟨stop, qq⟩ | ⟨go, Nx, hNx, step⟩
    · refine thnF (T.done (X.blk s3 H3 scope ce fp) rfl rfl rfl hc i [] s5 _ H5 (fun _ _ => False) I5 (stat I5 n5) st5 stop) fun r s6 ⟨hr, I6⟩ => ?_
      subst hr
      have I7 : Inv X pins σ H5 s6 := I3.call' (ch := fp) I6.os I6.base I6.hok I6.bare fun b hb => ⟨(f3 b hb).1.2.2.2.1, (f3 b hb).1.2.1, (f3 b hb).1.2.2.2.2.1, (f3 b hb).1.2.2.2.2.2⟩
      have nC : H5 ce.locals = none := I6.free
      obtain ⟨m, hn, _⟩ := I6.loc
      have hn : s6.heap.Ns ce.locals m := hn
      rw [cL] at hn nC
      exact hRR D s3.heap.objs.size s6 m H5 I7 qq hn (I3.fpOk (Nat.le_refl _) nC)
    · refine thnF (T.item (X.blk s3 H3 scope ce fp) rfl rfl rfl hc i [] s5 _ H5 (fun _ _ => False) I5 (stat I5 n5) st5 go) fun r s6 ⟨u, hr, h6⟩ => ?_
      subst hr
      refine thnF h6 fun _ s7 ⟨x, H7, I7, r7, y7, st7, n7⟩ => ?_
      have I7' := I7.pinned (stat I7 n7) (T.obj _ _ st7)
      refine thnF (pg.run _ s7 _ H7 x u _ I7' r7 (step x H7 y7)) fun _ s8 ⟨σ8, H8, I8, hw8, q8⟩ => thnF (pt.run _ s8 σ8 H8 _ I8 q8) fun b s9 ⟨H9, I9, q9⟩ => ?_
      have fin : ∀ {s' : Shared} {H' : Hp}, Inv (X.blk s3 H3 scope ce fp) ([] ++ pinsAt fp s7.heap) σ8 H' s' → Nx H' → ∃ m, m < n ∧ ∃ i H', Inv (X.blk s3 H3 scope ce fp) [] (wipe σ (own.map (·.2))) H' s' ∧ tn i s'.heap ∧ (∀ b ∈ fp, H' b = none) ∧ W i m H' := by
        intro s' H' I' nx
        obtain ⟨m', hm, w'⟩ := hNx H' nx
        have pin' : ∀ b ∈ fp, ∀ o, s7.heap.get? b = some o → s'.heap.get? b = some o ∧ H' b = none := fun b hb o e => by
          have z := I'.pin (b, o) (List.mem_append_right _ (List.mem_append_right _ (mem_pinsAt hb e)))
          exact ⟨z.1, z.2.1⟩
        have hl : (wipe σ (own.map (·.2))).length = σ8.length := by rw [← hw8, wipe_length]
        refine ⟨m', hm, i + 1, H', (I'.unpinned (pins := [])).weak hl (fun j v e => by rw [← hw8] at e; exact (wipe_some e).1), T.keep _ _ _ st7 fun b hb o e => (pin' b hb o e).1, fun b hb => ?_, w'⟩
        obtain ⟨o, e, _⟩ := T.obj _ _ st7 b hb
        exact (pin' b hb o e).2
      cases b with
      | false =>
        rw [if_neg Bool.false_ne_true] at q9 ⊢
        exact fin I9 q9
      | true =>
        rw [if_pos rfl] at q9 ⊢
        refine thnF (pe.run _ s9 σ8 H9 _ I9 q9) fun z s10 ⟨yv, H10, I10, r10, x0, S0, n0, ey, hD10, hz10, nx⟩ => ?_
        subst ey
        obtain ⟨tk0, rfl⟩ := (show ∃ t, z = Value.str x0 t from r10)
        exact addT_ok (X := X.blk s3 H3 scope ce fp) I10 hD10 hz10 fun s11 I11 => fin I11 nx
  exact PpSet.codeAny_compStart_set loop (T.self X.A 0 _ _ _ st4 loop)
end
end Fx

namespace Fx
open PySem PySem.Spec PyProof.Rows L2 Evl Lk
/-! ### sorted({text for .. in .. if ..}) -/
def addU (l : List Str) (x : Str) : List Str := if l.contains x then l else l ++ [x]
def uniq (acc : List Str) : List Str := acc.foldl addU []
theorem uniq_snoc {acc : List Str} {x : Str} : uniq (acc ++ [x]) = addU (uniq acc) x := by unfold uniq; rw [List.foldl_append]; rfl
theorem addU_mem {l : List Str} {x y : Str} : y ∈ addU l x ↔ y ∈ l ∨ y = x := by
  unfold addU
  split
  · rename_i h
    have h : x ∈ l := by simpa using h
    exact ⟨.inl, fun z => z.elim id fun e => by rw [e]; exact h⟩
  · rw [List.mem_append, List.mem_singleton]
theorem addU_nd {l : List Str} {x : Str} (h : l.Nodup) : (addU l x).Nodup := by
  unfold addU
  split
  · exact h
  · rename_i n
    have n : x ∉ l := by simpa using n
    exact List.nodup_append.mpr ⟨h, List.nodup_cons.mpr ⟨nofun, .nil⟩, fun y hy z hz e => n (by rw [← List.mem_singleton.mp hz, ← e]; exact hy)⟩
theorem addU_len {l : List Str} {x : Str} : (addU l x).length ≤ l.length + 1 := by
  unfold addU
  split
  · omega
  · rw [List.length_append]; exact Nat.le_refl _
theorem uniq_ok (acc : List Str) : (∀ y, y ∈ uniq acc ↔ y ∈ acc) ∧ (uniq acc).Nodup ∧ (uniq acc).length ≤ acc.length := by
  have key : ∀ (acc l : List Str), l.Nodup → (∀ y, y ∈ acc.foldl addU l ↔ y ∈ l ∨ y ∈ acc) ∧ (acc.foldl addU l).Nodup ∧ (acc.foldl addU l).length ≤ l.length + acc.length := by
    intro acc
    induction acc with
    | nil => exact fun l h => ⟨fun y => ⟨.inl, fun z => z.elim id nofun⟩, h, Nat.le_refl _⟩
    | cons x acc ih =>
      intro l h
      obtain ⟨h1, h2, h3⟩ := ih (addU l x) (addU_nd h)
      have h4 := addU_len (l := l) (x := x)
      refine ⟨fun y => ?_, h2, by rw [List.foldl_cons, List.length_cons]; omega⟩
      rw [List.foldl_cons, h1 y, addU_mem, List.mem_cons, or_assoc]
  obtain ⟨h1, h2, h3⟩ := key acc [] .nil
  exact ⟨fun y => (h1 y).trans ⟨fun z => z.elim nofun id, .inr⟩, h2, by rw [List.length_nil, Nat.zero_add] at h3; exact h3⟩
def UniO (X : Cx) (D : Addr) (l : List Str) : HO := SetTO X.prog X.w D (fun q => l.contains q) l.length
theorem newT_uni {X : Cx} {D : Addr} : NewT X D = UniO X D [] := by
  show SetTO _ _ D (fun _ => false) 0 = SetTO _ _ D _ 0
  congr 1
theorem addT_uni {X : Cx} {D : Addr} {l : List Str} {x : Str} : AddT X D (fun q => l.contains q) l.length x = UniO X D (addU l x) := by
  unfold AddT UniO
  have e1 : (fun j => l.contains j || decide (j = x)) = fun q => (addU l x).contains q := by
    funext j
    rw [Bool.eq_iff_iff, Bool.or_eq_true, decide_eq_true_eq, List.contains_iff_mem, List.contains_iff_mem, addU_mem]
  have e2 : (if l.contains x = true then l.length else l.length + 1) = (addU l x).length := by
    unfold addU
    split
    · rfl
    · rw [List.length_append]; rfl
  rw [e1, e2]
/-- between two turns: the frame against its state ahead of the comprehension, and what is filled -/
structure Cso (G : Gx) (T : Addr → Prop) (H : Hp) (env : Env) (F : Nat → List Addr) (Dl : Addr) (σ' : L2.St) (vs' : List Nat) (T' : Addr → Prop) (H' : Hp) (e : Env) (F' : Nat → List Addr) (ob : HO) : Prop where
  chg : Chg T H (OwnP env F) T' H'
  re : RE G T' H' σ' (wipeE e vs') F'
  own : ∀ a, OwnP (wipeE e vs') F' a → OwnP env F a ∨ H a = none
  vw : ∀ k o, (wipeE e vs')[k]? = some (some (.vw o)) → env[k]? = some (some (.vw o)) ∧ F' k = F k
  tD : T' Dl
  hD : H' Dl = some ob
  nF : ∀ k, IsS (wipeE e vs') k → Dl ∉ F' k
section
variable {G : Gx} {T T1 T4 : Addr → Prop} {H H1 H2 H4 : Hp} {σ σ' σ2 : L2.St} {env e e4 : Env} {F F1 F4 : Nat → List Addr} {Dl : Addr} {ob ob1 : HO} {vs v1 v2 : List Nat}
theorem Cso.ev (t : Trk T H) (c : Cso G T H env F Dl σ2 [] T1 H1 e F1 ob) (a : Att G σ2 T1 H1 e F1 T4 H4 e4 F4) : Cso G T H env F Dl σ2 [] T4 H4 e4 F4 ob ∧ Ex (hid T1 H1) (hid T4 H4) := by
  have n : ∀ k, IsS e k → ∀ y ∈ [Dl], y ∉ F1 k := fun k hk y hy hF => by
    rw [List.mem_singleton.mp hy] at hF
    exact c.nF k hk hF
  have nP : ¬ OwnP e F1 Dl := fun ⟨k, ⟨o, hk⟩, hF⟩ => n k ⟨_, hk⟩ Dl (List.mem_singleton.mpr rfl) hF
  have out := att_out (fr := [Dl]) c.re.trk a (fun y hy => by rw [List.mem_singleton.mp hy]; exact c.tD) n
  have x := a.chg.hid c.re.sub
  refine ⟨⟨c.chg.trans t a.chg c.own, a.re, fun y hy => ?_, fun k o hk => ?_, a.chg.tk Dl c.tD nP, a.chg.keep Dl _ c.hD nP, fun k hk hF => out k hk Dl (List.mem_singleton.mpr rfl) hF⟩, x⟩
  · rcases a.own y hy with h | h
    · exact c.own y h
    · refine .inr ?_
      cases z : H y with
      | none => rfl
      | some u => exact absurd h (c.chg.dom y (by rw [z]; exact nofun))
  · obtain ⟨h1, h2⟩ := a.vw k o hk
    obtain ⟨h3, h4⟩ := c.vw k o h1
    exact ⟨h3, h2.trans h4⟩
theorem Cso.back (c : Cso G T H env F Dl σ2 v1 T1 H1 e F1 ob) (sub : ∀ i ∈ v1, i ∈ v2) (hl : σ.length = σ2.length) (hs : ∀ k, k ∉ v2 → σ[k]? = σ2[k]?) (hp : ∀ i ∈ v2, G.prot i = false) : Cso G T H env F Dl σ v2 T1 H1 e F1 ob :=
  ⟨c.chg, (by
    have r := c.re.wipeE v2
    rw [wipeE_both sub] at r
    exact r.sigma hl hs hp), fun a ⟨k, ⟨o, hk⟩, ha⟩ => c.own a ⟨k, ⟨o, wipeE_sub sub hk⟩, ha⟩, fun k o hk => c.vw k o (wipeE_sub sub hk), c.tD, c.hD, fun k ⟨s, hk⟩ => c.nF k ⟨s, wipeE_sub sub hk⟩⟩
theorem Cso.turn {tg : Tgt} {x : V} {d : D} {xs : List D} (t : Trk T H) (c : Cso G T H env F Dl σ' vs T1 H1 e F1 ob) (ex : Ex H1 H2) (fz : Fz G.K (hid T1 H2) x d) (hx : tg.get d = some xs) (hsub : ∀ j ∈ tg.js, j ∈ vs) (hp : ∀ i ∈ vs, G.prot i = false) (hlen : ∀ i ∈ vs, i < σ'.length) {R : L2.St → Hp → Prop}
    (k : ∀ σ2 F2, Cso G T H env F Dl σ2 [] T1 H2 (setE (wipeE e vs) tg.js xs) F2 ob → σ2.length = σ'.length → (∀ k, k ∉ vs → σ2[k]? = σ'[k]?) → R σ2 H2) : tg.tg G.K x (wipe σ' vs) H2 R := by
  have re2 : RE G T1 H2 (wipe σ' vs) (wipeE e vs) F1 := (c.re.ex ex).sigma (wipe_length σ' vs) (fun k hk => by rw [wipe_get, if_neg hk]) hp
  have lw : ∀ j ∈ tg.js, j < (wipe σ' vs).length := fun j hj => by rw [wipe_length]; exact hlen j (hsub j hj)
  have fin : ∀ ws F2, RE G T1 H2 (setS (wipe σ' vs) tg.js ws) (setE (wipeE e vs) tg.js xs) F2 → (∀ k, k ∉ tg.js → F2 k = F1 k) → R (setS (wipe σ' vs) tg.js ws) H2 := fun ws F2 r2 f2 => by
    generalize hσ : setS (wipe σ' vs) tg.js ws = σ2 at r2
    have sg : ∀ k, k ∉ vs → σ2[k]? = σ'[k]? := fun k hk => by
      rw [← hσ, setS_out (fun z => hk (hsub k z)), wipe_get, if_neg hk]
    have ln : σ2.length = σ'.length := by rw [← hσ, setS_len, wipe_length]
    generalize henv : setE (wipeE e vs) tg.js xs = env2 at r2
    have sl2 : ∀ k s, env2[k]? = some (some s) → ((∃ d, s = .f d) ∧ F2 k = []) ∨ ((wipeE e vs)[k]? = some (some s) ∧ F2 k = F1 k) := fun k s h => by
      rw [← henv] at h
      rcases setE_s h with ⟨_, d, z⟩ | h'
      · subst z
        rw [henv] at h
        obtain ⟨v, _, z⟩ := r2.slot k _ h
        exact .inl ⟨⟨d, rfl⟩, z.2⟩
      · exact .inr ⟨h', f2 k fun z => (wipeE_some h').2 (hsub k z)⟩
    have c1 : Chg T1 H1 (OwnP (wipeE e vs) F1) T1 H2 := ⟨fun a o h _ => ex a o h, fun _ h _ => h, fun _ h => .inl h, r2.trk, ex_dom ex⟩
    refine k σ2 F2 ⟨c.chg.trans t c1 c.own, by rw [henv]; exact r2, fun a ⟨k, ⟨o, hk⟩, ha⟩ => ?_, fun k o hk => ?_, c.tD, ex Dl _ c.hD, fun k ⟨s, hk⟩ hF => ?_⟩ ln sg
    · rw [henv] at hk
      rcases sl2 k _ hk with ⟨⟨d, z⟩, _⟩ | ⟨h, z⟩
      · cases z
      · exact c.own a ⟨k, ⟨o, h⟩, by rw [← z]; exact ha⟩
    · rw [henv] at hk
      rcases sl2 k _ hk with ⟨⟨d, z⟩, _⟩ | ⟨h, z⟩
      · cases z
      · obtain ⟨h3, h4⟩ := c.vw k o h
        exact ⟨h3, z.trans h4⟩
    · rw [henv] at hk
      rcases sl2 k s hk with ⟨_, z⟩ | ⟨h, z⟩
      · rw [z] at hF; cases hF
      · rw [z] at hF; exact c.nF k ⟨s, h⟩ hF
  cases tg with
  | name j =>
    have hx : some [d] = some xs := hx
    cases hx
    obtain ⟨F2, r2, f2⟩ := RE.names (js := vs) hp (js' := [j]) hsub re2 (.cons fz .nil) lw
    exact fin [x] F2 r2 f2
  | tup ks =>
    cases d with
    | tup ds' =>
      have hx : (if ds'.length = ks.length then some ds' else none) = some xs := hx
      by_cases hl : ds'.length = ks.length
      · rw [if_pos hl] at hx
        cases hx
        cases fz with
        | tup l fl =>
          rename_i p ws
          obtain ⟨F2, r2, f2⟩ := RE.names (js := vs) hp (js' := ks) hsub re2 fl lw
          exact ⟨_, _, rfl, ex_t hid_ex l, fl.length.trans hl, gNames_of (σ := wipe σ' vs) (fl.length.trans hl) (fin ws F2 r2 f2)⟩
      · rw [if_neg hl] at hx
        cases hx
    | _ => cases hx
theorem Cso.write (t : Trk T H) (hn : H Dl = none) (hg : G.P0 Dl ∨ G.H0 Dl = none) (c : Cso G T H env F Dl σ' vs T1 H1 e F1 ob) :
    Cso G T H env F Dl σ' vs T1 (upd H1 Dl ob1) e F1 ob1 ∧ Ex (hid T1 H1) (hid T1 (upd H1 Dl ob1)) := by
  have c5 : Chg T1 H1 (fun a => a = Dl) T1 (upd H1 Dl ob1) := Chg.write c.re.trk rfl
  have sub5 : Sub T1 (fun a => a = Dl) := fun a h => by rw [h]; exact c.tD
  exact ⟨⟨c.chg.trans t c5 (fun a h => by rw [h]; exact .inr hn), c.re.chg c5 sub5 (fun a h => by rw [h]; exact hg) fun k hk a ha h => c.nF k hk (by rw [← h]; exact ha), c.own, c.vw, c.tD, upd_same, c.nF⟩, c5.hid sub5⟩
end
def wSS (wi : WI) (tg : Tgt) (vs : List Nat) (t : WT) (w : WE) : WE := fun env Q => wi env fun ds e0 => ∃ J : Nat → List Str → Env → Prop, J 0 [] e0 ∧
  (∀ i d acc e, ds[i]? = some d → J i acc e → ∃ xs, tg.get d = some xs ∧ t (setE (wipeE e vs) tg.js xs) fun b e2 => if b = true then w e2 fun r e3 => ∃ x : Str, r = .f (.str x) ∧ acc.length < 1000 ∧ J (i + 1) (acc ++ [x]) e3 else J (i + 1) acc e2) ∧
  ∀ acc e, J ds.length acc e → acc.length < 64 ∧ ∀ ys : List Str, ys.Nodup → sortedS ys = true → (∀ y, y ∈ ys ↔ y ∈ acc) → Q (.f (.lst (ys.map D.str))) (wipeE e vs)
def EndT (X : Cx) (Q : VK) (D : Addr) (H : Hp) : Prop := ∃ l : List Str, H D = some (UniO X D l) ∧ l.Nodup ∧ l.length < 64 ∧ ∀ (ys : List Str) (p : Addr), ys.Nodup → sortedS ys = true → (∀ y, y ∈ ys ↔ y ∈ l) → H p = none → Q (.ref p) (upd H p (.lst (ys.map V.str)))
section
variable {X : Cx} {G : Gx} {wi : WI} {tg : Tgt} {vs : List Nat} {t : WT} {w : WE}
theorem ssW {tt : TT} (hi : MonoI wi) (hw : MonoE w) (htt : ∀ σ H Q, tWT G t σ H Q → tt σ H Q) (mt : MonoT t) (hsub : ∀ j ∈ tg.js, j ∈ vs) (hp : ∀ i ∈ vs, G.prot i = false) {σ : L2.St} (hlen : ∀ i ∈ vs, i < σ.length) {H : Hp} {Q : VK} (h : tW G (wSS wi tg vs t w) σ H Q) :
    tScT X (tWI G wi) (tg.tg G.K) tt (tW G w) vs σ H (EndT X Q) := by
  obtain ⟨T, env, F, r, q⟩ := h
  refine ⟨T, env, F, r, hi _ _ _ (fun ds e0 ⟨J, j0, js, jd⟩ It T1 H1 F1 Bs a it b0 => ?_) q⟩
  intro Dl nD
  have Hnone : H Dl = none := by
    cases e : H Dl with
    | none => rfl
    | some u => exact absurd nD (a.chg.dom Dl (by rw [e]; exact nofun))
  have G0none : G.P0 Dl ∨ G.H0 Dl = none := .inr (by
    cases e : G.H0 Dl with
    | none => rfl
    | some u => exact absurd Hnone (r.st.dom Dl (by rw [e]; exact nofun)))
  let S : Nat → Hp → Prop := fun i H' => ∃ T' e F' acc, Cso G T H env F Dl σ vs T' H' e F' (UniO X Dl (uniq acc)) ∧ Bs T' H' ∧ J i acc e
  have start : S 0 (upd H1 Dl (NewT X Dl)) := by
    have a1 := att_new (o := NewT X Dl) a.re nD
    have re := a1.re.wipeE vs
    refine ⟨_, e0, F1, [], ⟨(a.trans r.trk a1).chg, re, fun x ⟨k, ⟨o, hk⟩, hx⟩ => a.own x ⟨k, ⟨o, (wipeE_some hk).1⟩, hx⟩, fun k o hk => a.vw k o (wipeE_some hk).1, .inr rfl, by rw [upd_same, newT_uni]; rfl, fun k ⟨s, hk⟩ hF => ?_⟩, it.keep _ _ _ _ b0 (hid_new nD), j0⟩
    obtain ⟨v, _, z⟩ := a.re.slot k s (wipeE_some hk).1
    exact a.re.trk Dl (z.sub Dl hF) nD
  refine ⟨fun i m H' => m = ds.length - i ∧ i ≤ ds.length ∧ S i H', ⟨_, rfl, Nat.zero_le _, start⟩, ?_⟩
  rintro i m H' ⟨rfl, hi', T', e, F', acc, c, b', j'⟩
  by_cases hlt : i < ds.length
  · obtain ⟨go, yl⟩ := it.go i T' H' c.re.trk b' hlt
    refine .inr ⟨go, S (i + 1), fun H2 s2 => ⟨ds.length - (i + 1), by omega, rfl, hlt, s2⟩, fun x H2 y => ?_⟩
    obtain ⟨d, hd, ex, fz⟩ := yl x H2 y
    obtain ⟨xs, hx, jt⟩ := js i d acc e hd j'
    unfold stepT
    refine c.turn r.trk ex fz hx hsub hp hlen fun σ2 F2 c2 ln sg => ⟨wipe_eq ln sg, ?_⟩
    refine htt _ _ _ ⟨T', _, F2, c2.re, mt _ _ _ (fun b e2 q T3 H3 F3 a3 => ?_) jt⟩
    obtain ⟨c3, x3⟩ := c2.ev r.trk a3
    have x23 := (hid_mono (T := T') ex).trans x3
    cases b with
    | false =>
      have q : J (i + 1) acc e2 := q
      exact ite_ff ⟨T3, e2, F3, acc, c3.back (by simp) ln.symm (fun k hk => (sg k hk).symm) hp, it.keep _ _ _ _ b' x23, q⟩
    | true =>
      refine ite_tt ⟨T3, e2, F3, a3.re, hw _ _ _ (fun s e8 ⟨x8s, hs, hz, j8⟩ y8 T8 H8 F8 fr8 a8 z8 => ?_) q⟩
      subst hs
      obtain ⟨c8, x8⟩ := c3.ev r.trk a8
      have fz8 : Fz G.K (hid T8 H8) y8 (.str x8s) := z8.rel.1
      cases fz8
      obtain ⟨c9, x9⟩ := c8.write (ob1 := UniO X Dl (uniq (acc ++ [x8s]))) r.trk Hnone G0none
      have lu := (uniq_ok acc).2.2
      refine ⟨x8s, fun q => (uniq acc).contains q, (uniq acc).length, rfl, c8.hD, by unfold scanBound; omega, ?_⟩
      rw [addT_uni, ← uniq_snoc]
      exact ⟨T8, e8, F8, acc ++ [x8s], c9.back (by simp) ln.symm (fun k hk => (sg k hk).symm) hp, it.keep _ _ _ _ b' ((x23.trans x8).trans x9), j8⟩
  · have z : i = ds.length := by omega
    subst z
    obtain ⟨h64, hq⟩ := jd acc e j'
    obtain ⟨u1, u2, u3⟩ := uniq_ok acc
    refine .inl ⟨it.stop _ T' H' b' rfl, uniq acc, c.hD, u2, by omega, fun ys p nd so mm np => ?_⟩
    have a' : Att G σ T H env F T' H' (wipeE e vs) F' := ⟨c.chg, c.re, c.own, c.vw⟩
    exact hq ys nd so (fun y => (mm y).trans (u1 y)) (.ref p) T' _ F' [] (a'.trans r.trk (Att.ex a'.re (Ex.new np))) (res_f (fz_new_l a'.re.trk np (fzl_strs ys)))
theorem mono_ss (mi : MonoI wi) : MonoE (wSS wi tg vs t w) := fun env Q Q' i q => mi _ _ _ (fun ds e0 ⟨J, j0, js, jd⟩ => ⟨J, j0, js, fun acc e hj => ⟨(jd acc e hj).1, fun ys a b c => i _ _ ((jd acc e hj).2 ys a b c)⟩⟩) q
end
section
variable {X : Cx} {G : Gx} {elt tg iter c : Expr} {scope : Scope} {own : List (Str × Nat)} {pos spos p : Pos} {wi : WI} {t : Tgt} {w : WE} {wt : WT}
theorem pe_sortedSC {g : TG} {tt : TT} {te : TE} {ti : TI} {ifs : List Expr} (hc : X.calm = true) (hN : X.N.Nodup) (hgl : Gl X "sorted") (hm : X.mg "sorted" = none) (hi : PI X tg iter ti) (ok : BlkOk X.N X.env.scope scope own)
    (hg : InBlk X scope fun Y => PG Y tg g) (ht : InBlk X scope fun Y => PTs Y ifs tt) (he : InBlk X scope fun Y => PE Y elt te) (hs : ∀ x, foldedSetIterable iter X.env x = pure x) :
    PE X (.Call (.Name "sorted" p) [.SetComp elt [⟨tg, iter, ifs, 0⟩] scope spos] [] pos) (fun σ H Q => tScT X ti g tt te (own.map (·.2)) σ H (EndT X Q)) := by
  refine ⟨fun pins s σ H Q I h => ?_⟩
  refine Call_ (ld_blt I hgl hm boot_sorted ?_)
  refine PyProof.Rows.callWith_builtin1 (PyProof.Rows.args_cons ?_ rfl) rfl rfl
  rw [PpSet.eval_SetComp]
  refine scT_core hc hN I hi ok hg ht he hs h fun D C s' m H' I' ⟨l, hD, nd, h64, q⟩ hn f => ⟨m, hn, fun h2 sb => ?_⟩
  obtain ⟨f0, f1, f2, f3, f4, f5⟩ := f
  have I2 := I'.turned (t' := s'.toks) (fun b o hb e => (sb.2 b hb).trans e) f0 f1 f3 f4 f5
  have R : SetT X.prog X.w h2 D (fun q => l.contains q) l.length := (I2.hok D _ hD).1
  refine PyProof.Rows.args_nil ?_
  refine SO.sorted_ord (s := { s' with heap := h2, toks := s'.toks }) R (I2.ok.hd hc) h64 fun s3 p3 out c3 ys k g3 o z hp sy so mem len => ?_
  have fresh : H' p3 = none := I2.hok.fresh z
  have nd3 : ys.Nodup := SO.nodup_of_len nd (fun y hy => (mem y).mpr (by simpa using hy)) (Nat.le_of_eq len)
  obtain ⟨h3, g2, d2, t2, o2⟩ := s3
  dsimp only at g3 o hp k z
  subst g3 o
  refine ⟨.ref p3, _, ?_, rfl, q ys p3 nd3 so (fun y => (mem y).trans (by simp)) fresh⟩
  have ob : ObjOk X.prog X.w (upd H' p3 (.lst (ys.map V.str))) h3 p3 (.lst (ys.map V.str)) := ⟨by rw [List.length_map, len]; exact Nat.le_trans (Nat.le_of_lt h64) (Nat.le_of_ble_eq_true rfl), out.toList, c3, vals_of_strs sy, hp⟩
  exact Inv.call (s := { s' with heap := h2, toks := s'.toks }) (ch := []) I2 (Un.laid k z fresh) (I2.hok.laid k z ob) I2.bare fun b hb => nomatch hb
theorem ge_sortedSC1 (hc : X.calm = true) (hN : X.N.Nodup) (hgl : Gl X "sorted") (hm : X.mg "sorted" = none) (hi : GI X G tg iter wi) (ok : BlkOk X.N X.env.scope scope own) (hg : PGB X scope tg (t.tg G.K)) (ht : GTB X scope G c wt) (he : GEB X scope G elt w)
    (hsub : ∀ j ∈ t.js, j ∈ own.map (·.2)) (hp : ∀ i ∈ own.map (·.2), G.prot i = false) (hL : ∀ i ∈ own.map (·.2), i < X.N.length) (hs : ∀ x, foldedSetIterable iter X.env x = pure x := by intro _; rfl) :
    GE X G (.Call (.Name "sorted" p) [.SetComp elt [⟨tg, iter, [c], 0⟩] scope spos] [] pos) (wSS wi t (own.map (·.2)) wt w) := by
  refine ⟨?_, mono_ss hi.mono⟩
  have pe := pe_sortedSC (p := p) (pos := pos) (spos := spos) hc hN hgl hm hi.pi ok hg (fun s H C cl fp => pts_one (ht s H C cl fp).pt) (fun s H C cl fp => (he s H C cl fp).pe) hs
  refine ⟨fun pins s σ H Q I h => pe.run pins s σ H Q I ?_⟩
  have hl := I.len
  exact ssW hi.mono (allB_mono he) (fun _ _ _ q => q) (allB_monoT ht) hsub hp (fun i h => by have := hL i h; omega) h
end
section
variable {wi : WI} {tg : Tgt} {vs : List Nat} {t : WT} {w : WE} {env : Env} {Q : Sl → Env → Prop}
theorem x_ss (h : wi env fun ds e0 => ∃ J : Nat → List Str → Env → Prop, J 0 [] e0 ∧
  (∀ i d acc e, ds[i]? = some d → J i acc e → ∃ xs, tg.get d = some xs ∧ t (setE (wipeE e vs) tg.js xs) fun b e2 => if b = true then w e2 fun r e3 => ∃ x : Str, r = .f (.str x) ∧ acc.length < 1000 ∧ J (i + 1) (acc ++ [x]) e3 else J (i + 1) acc e2) ∧
  ∀ acc e, J ds.length acc e → acc.length < 64 ∧ ∀ ys : List Str, ys.Nodup → sortedS ys = true → (∀ y, y ∈ ys ↔ y ∈ acc) → Q (.f (.lst (ys.map D.str))) (wipeE e vs)) : wSS wi tg vs t w env Q := h
end
end Fx

namespace Fx
open PySem PySem.Spec PyProof.Rows L2 Evl Lk
/-! ### list * int, an owned list -/
section
variable {X : Cx} {G : Gx} {w1 w2 : WE} {a b : Expr} {pos : Pos}
end
end Fx

namespace Fx.ZM
open PySem PySem.Spec PyProof.Rows L2
/-! ### zip(a list, a tuple) -/
section
variable {P : Program} {w : World} {A : Around} {E : Value → Shared → Prop} {s : Shared}
variable {z TI TO i1 i2 l1 l2 : Addr} {I1 I2 : Nat → Option Value} {S1 S2 : Heap → Nat → Prop} {k1 k2 : Nat} {x y a b : Value}
end
end Fx.ZM

namespace Fx.ZM
open PySem PySem.Spec PyProof.Rows L2
section
variable {P : Program} {w : World} {A : Around} {E : Value → Shared → Prop} {s : Shared}
end
end Fx.ZM
namespace Fx
open PySem PySem.Spec PyProof.Rows L2 Evl Lk
section
variable {X : Cx} {G : Gx} {wa : WA} {pos : Pos}
end
section
variable {wa : WA} {env : Env} {QI : List D → Env → Prop}
end
end Fx

/-! max(list of whole numbers, default=k) -/
namespace MaxK
open PySem PySem.Spec PyProof.Rows
section
variable {prog : Program} {w : World} {A : Around} {R : Result → Shared → Prop} {I : Addr} {fp wr : List Addr} {n : Nat} {P : Nat → Value → Prop} {St : Nat → Heap → Prop}
/-- what the loop keeps: the best so far, kept twice -/
theorem best (kw : List (Str × Value)) (W : Walks prog w A.in1 I fp wr n P St) (bt : Nat → Nat → Bool) (cmp : CmpOf prog w A.in1 .Gt P bt) (S : Addr) (Sf : S ∉ fp) :
    ∀ (k j : Nat) (s : Shared) (b : Value) (c : Nat), n = j + 1 + k → St (j + 1) s.heap → P (argBest bt j) b → s.heap.get? S = some { cls := .type "list", dict := none, data := .seq #[b, b] c, slots := #[] } →
    (∀ v h' tk, P (argBest bt (n - 1)) v → (∀ a o, a ∉ wr → a ≠ S → s.heap.get? a = some o → h'.get? a = some o) → R (.ok (.ret v)) { s with heap := h', toks := tk }) →
    codeAny (model prog w) A (.builtin "max.loop" ⟨[.ref I, .none, .ref S], kw⟩) R s := by
  have Sw : S ∉ wr := fun h => Sf (W.sub _ h)
  have nm : (toString "max" ++ toString ".loop" : String) = "max.loop" := by decide
  intro k
  induction k with
  | zero =>
    intro j s b c hk st pb hS fin
    obtain rfl : n = j + 1 := hk
    refine codeAny_builtin F.entry_max_loop ?_
    rw [Around.under_plainId F.plain_max_loop _]
    show wpAny _ A.in1 (seqItems? (.ref S) >>= _) _ _ s
    refine wpAny_bind (wpAny_seqItems hS rfl ?_)
    show wpAny _ A.in1 (tryCatch (pyNext (.ref I)) _ >>= _) _ _ s
    refine wpAny_bind (wpAny_tryCatch (W.done s _ _ st fun h' tk keep => ?_))
    have hS' := keep S _ Sw hS
    show wpAny _ A.in1 (updateSeq S (fun _ => #[]) >>= _) _ _ _
    exact wpAny_bind (wpAny_updateSeq hS' rfl (wpAny_bind (wpAny_letGo (wpAny_pure (fin b _ tk pb fun a o h1 h2 e => (Heap.get?_update_other _ _ (Ne.symm h2)).trans (keep a o h1 e))))))
  | succ k ih =>
    intro j s b c hk st pb hS fin
    refine codeAny_builtin F.entry_max_loop ?_
    rw [Around.under_plainId F.plain_max_loop _]
    show wpAny _ A.in1 (seqItems? (.ref S) >>= _) _ _ s
    refine wpAny_bind (wpAny_seqItems hS rfl ?_)
    show wpAny _ A.in1 (tryCatch (pyNext (.ref I)) _ >>= _) _ _ s
    refine wpAny_bind (wpAny_tryCatch (W.item (j + 1) s _ _ (by omega) st fun v h' tk pv st' keep => ?_))
    have hS' := keep S _ Sw hS
    show wpAny _ A.in1 (tryCatch (holding [v, v] (richCompare .Gt v b >>= _)) _ >>= _) _ _ _
    refine wpAny_bind (wpAny_tryCatch (wpAny_holding (wpAny_bind (cmp (j + 1) (argBest bt j) v b _ _ _ pv pb (wpAny_bind (wpAny_holding (wpAny_truthy_bool (wpAny_bind (wpAny_letGo (wpAny_pure ?_))))))))))
    have ab : argBest bt (j + 1) = if bt (j + 1) (argBest bt j) then j + 1 else argBest bt j := rfl
    cases better : bt (j + 1) (argBest bt j) with
    | true =>
      rw [better, if_pos rfl] at ab
      simp only [if_true]
      refine wpAny_bind (wpAny_updateSeq hS' rfl (wpAny_bind (wpAny_letGo ?_)))
      rw [nm]
      exact wpAny_pure ⟨plainId_quiet F.plain_max_loop _, ih (j + 1) _ v _ (by omega) (W.frame _ _ _ st' fun a af o e => (Heap.get?_update_other _ _ (fun h : S = a => Sf (h ▸ af))).trans e) (by rw [ab]; exact pv) (Heap.get?_update_self _ hS' rfl)
        fun v' h'' tk' pv' keep' => fin v' h'' tk' pv' fun a o h1 h2 e => keep' a o h1 h2 ((Heap.get?_update_other _ _ (Ne.symm h2)).trans (keep a o h1 e))⟩
    | false =>
      rw [better, if_neg Bool.false_ne_true] at ab
      simp only [Bool.false_eq_true, if_false]
      refine wpAny_bind (wpAny_letGo ?_)
      rw [nm]
      exact wpAny_pure ⟨plainId_quiet F.plain_max_loop _, ih (j + 1) _ b c (by omega) st' (by rw [ab]; exact pb) hS' fun v' h'' tk' pv' keep' => fin v' h'' tk' pv' fun a o h1 h2 e => keep' a o h1 h2 (keep a o h1 e)⟩
theorem first (d : Value) (W : Walks prog w A.in1 I fp wr n P St) (bt : Nat → Nat → Bool) (cmp : CmpOf prog w A.in1 .Gt P bt) (S : Addr) (Sf : S ∉ fp) {s : Shared} {c : Nat} (st : St 0 s.heap)
    (hS : s.heap.get? S = some { cls := .type "list", dict := none, data := .seq #[] c, slots := #[] })
    (fin : ∀ v h' tk, (n = 0 → v = d) → (0 < n → P (argBest bt (n - 1)) v) → (∀ a o, a ∉ wr → a ≠ S → s.heap.get? a = some o → h'.get? a = some o) → R (.ok (.ret v)) { s with heap := h', toks := tk }) :
    codeAny (model prog w) A (.builtin "max.loop" ⟨[.ref I, .none, .ref S], [("default", d)]⟩) R s := by
  have Sw : S ∉ wr := fun h => Sf (W.sub _ h)
  have nm : (toString "max" ++ toString ".loop" : String) = "max.loop" := by decide
  refine codeAny_builtin F.entry_max_loop ?_
  rw [Around.under_plainId F.plain_max_loop _]
  show wpAny _ A.in1 (seqItems? (.ref S) >>= _) _ _ s
  refine wpAny_bind (wpAny_seqItems hS rfl ?_)
  show wpAny _ A.in1 (tryCatch (pyNext (.ref I)) _ >>= _) _ _ s
  cases n with
  | zero =>
    refine wpAny_bind (wpAny_tryCatch (W.done s _ _ st fun h' tk keep => ?_))
    show wpAny _ A.in1 (rule _ >>= _) _ _ _
    exact wpAny_bind (wpAny_rule (wpAny_pure (fin d _ tk (fun _ => rfl) (fun h => absurd h (Nat.lt_irrefl 0)) fun a o h1 _ e => keep a o h1 e)))
  | succ k =>
    refine wpAny_bind (wpAny_tryCatch (W.item 0 s _ _ (Nat.succ_pos k) st fun v h' tk pv st' keep => ?_))
    have hS' := keep S _ Sw hS
    show wpAny _ A.in1 (updateSeq S (fun _ => #[v, v]) >>= _) _ _ _
    refine wpAny_bind (wpAny_updateSeq hS' rfl ?_)
    rw [nm]
    exact wpAny_pure ⟨plainId_quiet F.plain_max_loop _, best [("default", d)] W bt cmp S Sf k 0 _ v _ (by omega) (W.frame _ _ _ st' fun a af o e => (Heap.get?_update_other _ _ (fun h : S = a => Sf (h ▸ af))).trans e) pv (Heap.get?_update_self _ hS' rfl)
      fun v' h'' tk' pv' keep' => fin v' h'' tk' (fun h => by cases h) (fun _ => pv') fun a o h1 h2 e => keep' a o h1 h2 ((Heap.get?_update_other _ _ (Ne.symm h2)).trans (keep a o h1 e))⟩
end
section
variable {prog : Program} {w : World} {A : Around} {E : Value → Shared → Prop} {s : Shared}
theorem args_default (a d : Value) : argsOk "max" ⟨[a], [("default", d)]⟩ := by unfold argsOk; kernel_rfl
/-- a built-in that goes on in a loop, called with keywords -/
theorem tree_kw {id : String} {b : Builtin} {args : List Value} {kw : List (Str × Value)} {Q : Value → Shared → Prop} (hk : builtinKind id = none) (hp : plainId id = true) (hb : entryFor table id = some b) (ha : argsOk id ⟨args, kw⟩)
    (hc : wpAny (model prog w) A.in1 (b ⟨args, kw⟩) (fun fin s' => match fin with
      | .done f => (match (Except.ok f : Result) with | .ok (.ret v) => Q v s' | .ok _ => False | .error e => E e s')
      | .again c' => c'.quiet = true ∧ codeAny (model prog w) A c' (fun r s' => match r with | .ok (.ret v) => Q v s' | .ok _ => False | .error e => E e s') s') E s) :
    wpAny (model prog w) A (call (.builtin id) args kw) Q E s := by
  refine wpAny_call (codeAny_call_builtin hp hb ?_)
  simp only [checkBuiltinCall, hk]
  cases sg : Manifest.signature? id with
  | none => exact wpAny_pure hc
  | some sig =>
    simp only [argsOk, sg] at ha
    have ok : Bind.checkArgs id sig ⟨args, kw⟩ = pure () := ha
    show wpAny _ A.in1 (Bind.checkArgs id sig ⟨args, kw⟩) _ _ s
    rw [ok]
    exact wpAny_pure hc
theorem of_ints {l : Addr} {xs : Array (Int × Tok)} {d : Value} {Q : Value → Shared → Prop} (hh : A.handled = none) (hl : s.heap.IsList l (intItems xs))
    (h : ∀ v h' tk, (xs.size = 0 → v = d) → (0 < xs.size → (intItems xs)[argBest (fun i j => decide (numAt xs i > numAt xs j)) (xs.size - 1)]? = some v) → (∀ b o, s.heap.get? b = some o → h'.get? b = some o) → Q v { s with heap := h', toks := tk }) :
    wpAny (model prog w) A (call (.builtin "max") [.ref l] [("default", d)]) Q E s := by
  have nm : (toString "max" ++ toString ".loop" : String) = "max.loop" := by decide
  have sz : (intItems xs).size = xs.size := by simp [intItems]
  refine tree_kw F.kind_max F.plain_max F.entry_max (args_default _ _) ?_
  show wpAny _ A.in1 (Builtin.Builtins.bindParams "max" ["key", "default"] 0 ⟨[], [("default", d)]⟩ >>= _) _ _ s
  refine wpAny_bind (wpAny_of_eq (show Builtin.Builtins.bindParams "max" ["key", "default"] 0 ⟨[], [("default", d)]⟩ = pure [none, some d] from rfl) ?_)
  refine wpAny_bind (wpAny_pure ?_)
  refine wpAny_bind (iter_intList hl fun s₂ e st hfp hlI => ?_)
  subst e
  refine wpAny_bind (wpAny_newObj_type ?_)
  rw [nm]
  refine wpAny_pure ⟨plainId_quiet F.plain_max_loop _, first d (Walks.list (A := A.in1) hh _ l hlI (intItems xs)) _ (CmpOf.ints_gt (numAt xs) (fun _ _ => intItems_at)) _ (fun hm => Nat.lt_irrefl _ (hfp _ hm)) ?_ (Heap.get?_push_size _ rfl) fun v h' tk h0 h1 keep => ?_⟩
  · exact (Walks.list (A := A.in1) (prog := prog) (w := w) hh _ l hlI (intItems xs)).frame _ _ _ st fun b _ o e => Heap.get?_push_of_some _ e
  · rw [sz] at h0 h1
    exact h v h' tk h0 h1 (old_kept fun b o hb e => keep b o hb (Nat.ne_of_lt (Heap.lt_size e)) (Heap.get?_push_of_some _ e))
end
end MaxK

/-! max(list of whole numbers, default=k): the call -/
namespace Fx
open PySem PySem.Spec PyProof.Rows L2 Evl Lk
def rMaxDef (K : PySem.W.Frag) : List V → List V → Hp → VK → Prop := fun vs zs H Q => ∃ (a : Addr) (ns : List Int) (d : Int), vs = [V.ref a] ∧ zs = [V.int d] ∧ SqL K H a (ns.map V.int) ∧ ∀ m : Int, (ns = [] → m = d) → (ns ≠ [] → m ∈ ns) → (∀ y ∈ ns, y ≤ m) → Q (.int m) H
section
variable {X : Cx}
theorem cr_maxDef (hc : X.calm = true) : CallRK X (.builtin "max") [Str.ofString "default"] (rMaxDef X.K) := by
  intro pins s σ H vs zs us ws Q I r rz h
  obtain ⟨a, ns, d, rfl, rfl, hs, q⟩ := h
  obtain rfl := Vals.ref1 r
  obtain ⟨w1, rfl, e1⟩ : ∃ w1, ws = [w1] ∧ RelV (.int d) w1 := by
    cases rz with
    | cons r t => cases t; exact ⟨_, rfl, r⟩
  obtain ⟨td, rfl⟩ := e1
  obtain ⟨its, rv, hl, _⟩ := I.list hs
  have hi := rv.ints
  obtain ⟨xs, e⟩ := hi.allInts.items
  have hn : numsOf (intItems xs).toList = ns := by rw [← e]; exact hi.numsOf
  rw [nums_intItems] at hn
  subst hn
  have hl := hl.isList
  rw [e] at hl
  refine MaxK.of_ints (I.ok.hd hc) hl fun v h' tk h0 h1 hk => ?_
  by_cases h2 : xs.size = 0
  · have e0 : xs.toList.map (·.1) = [] := by rw [List.map_eq_nil_iff, Array.toList_eq_nil_iff]; exact Array.eq_empty_of_size_eq_zero h2
    rw [h0 h2]
    exact ⟨.int d, H, I.kept hk, ⟨_, rfl⟩, q d (fun _ => rfl) (fun h => absurd e0 h) fun y hy => by rw [e0] at hy; cases hy⟩
  · have hp : 0 < xs.size := by omega
    obtain ⟨t, rfl⟩ := intItems_at (h1 hp)
    obtain ⟨b1, b2⟩ := argBest_gt (numAt xs) (xs.size - 1)
    refine ⟨.int _, H, I.kept hk, ⟨_, rfl⟩, q _ (fun h => ?_) (fun _ => ?_) fun y hy => ?_⟩
    · rw [List.map_eq_nil_iff, Array.toList_eq_nil_iff] at h
      rw [h] at hp
      exact absurd hp (Nat.lt_irrefl 0)
    · rw [numAt_eq]; exact PySem.getD_mem (by rw [List.length_map, Array.length_toList]; omega)
    · obtain ⟨j, hj, rfl⟩ := mem_getD hy
      rw [List.length_map, Array.length_toList] at hj
      rw [← numAt_eq]; exact b2 j (by omega)
end
end Fx

/-! max(list of whole numbers, default=k), walked -/
namespace Fx
open PySem PySem.Spec PyProof.Rows L2 Evl Lk
def wMaxD (d : Int) (w1 : WE) : WE := fun env Q => w1 env fun r e => ∃ ns : List Int, r = .f (.lst (ns.map D.int)) ∧ ∀ m : Int, (ns = [] → m = d) → (ns ≠ [] → m ∈ ns) → (∀ y ∈ ns, y ≤ m) → Q (.f (.int m)) e
section
variable {X : Cx} {G : Gx} {a k : Expr} {w1 : WE} {p kp pos : Pos} {d : Int}
theorem ge_maxD (hc : X.calm = true) (hg : Gl X "max") (hm : X.mg "max" = none) (ha : GE X G a w1) (hk : PE X k (fun σ H Q => Q (.int d) H)) (hK : X.K = G.K := by rfl)
    (na : starEach [a] X.env = (false, eval a X.env) :: starEach [] X.env := by rfl) (he : backTo pos (starEach [a] X.env) = (false, eval a X.env) :: backTo pos (starEach [] X.env) := by rfl) (hpl : (backTo pos (starEach [a] X.env)).any (·.1) = false := by rfl) :
    GE X G (.Call (.Name "max" p) [a] [⟨some "default", k, kp⟩] pos) (wMaxD d w1) := by
  refine ⟨pe_imp (pe_callBK (cr_maxDef hc) hg hm rfl (pa_cons ha.pe pa_nil na) (pk_cons hk pk_nil) (he := he) (hpl := hpl)) fun σ H Q ⟨T, env, F, r, q⟩ => ⟨T, env, F, r, ha.mono _ _ _ (fun s e ⟨ns, hs, q⟩ x T1 H1 F1 f1 a1 z1 => ?_) q⟩, fun env Q Q' i q => ha.mono _ _ _ (fun s e ⟨ns, hs, q⟩ => ⟨ns, hs, fun m a b c => i _ _ (q m a b c)⟩) q⟩
  subst hs
  obtain ⟨l, vs, rfl, sq, f⟩ := z1.rel.cz (d := .lst (ns.map D.int)) rfl
  rw [fz_intsV f] at sq
  exact ⟨l, ns, d, rfl, rfl, by rw [hK]; exact sq, fun m h0 h1 h2 => q m h0 h1 h2 (.int m) T1 H1 F1 [] (a1.trans r.trk (Att.refl a1.re)) (res_f (.int m))⟩
end
section
variable {w1 : WE} {d : Int} {env : Env} {Q : Sl → Env → Prop}
theorem x_maxD (h : w1 env fun r e => ∃ ns : List Int, r = .f (.lst (ns.map D.int)) ∧ ∀ m : Int, (ns = [] → m = d) → (ns ≠ [] → m ∈ ns) → (∀ y ∈ ns, y ≤ m) → Q (.f (.int m)) e) : wMaxD d w1 env Q := h
end
end Fx

/-! dict(d): a copy, owned -/
namespace Fx
open PySem PySem.Spec PyProof.Rows L2 Evl Lk
section
variable {X : Cx} {G : Gx} {e : Expr} {w : WE} {p pos : Pos}
end
end Fx

namespace K85
open PySem PySem.Spec PyProof.Rows L2 Lk Evl Fx


def topS (i : Nat) : Stmt := PySem.Challenge.pw_leavechain_k85_whole_more_and_less_trust.main.body.getD i (.Pass ⟨0, 0, 0, 0⟩)
abbrev s_next_actor : Stmt := topS 4
theorem sc_next_actor : FnScope ["trust", "settled", "needed", "wish", "giver", "actor"] ["trust", "settled"] (defScope s_next_actor) := ⟨rfl, rfl, rfl, by decide +kernel, rfl, by decide +kernel, by decide +kernel⟩
abbrev s_givers_to : Stmt := topS 5
theorem sc_givers_to : FnScope ["trust", "actor", "tie"] ["trust", "actor"] (defScope s_givers_to) := ⟨rfl, rfl, rfl, by decide +kernel, rfl, by decide +kernel, by decide +kernel⟩
abbrev s_find_bar : Stmt := topS 6
theorem sc_find_bar : FnScope ["trust", "most", "settled", "actor"] ["trust", "most", "settled"] (defScope s_find_bar) := ⟨rfl, rfl, rfl, by decide +kernel, rfl, by decide +kernel, by decide +kernel⟩
abbrev s_is_full : Stmt := topS 7
theorem sc_is_full : FnScope ["trust", "most", "settled"] ["trust", "most", "settled"] (defScope s_is_full) := ⟨rfl, rfl, rfl, by decide +kernel, rfl, by decide +kernel, by decide +kernel⟩
abbrev s_is_in_ring : Stmt := topS 8
theorem sc_is_in_ring : FnScope ["settled", "actor"] ["settled", "actor"] (defScope s_is_in_ring) := ⟨rfl, rfl, rfl, by decide +kernel, rfl, by decide +kernel, by decide +kernel⟩
abbrev s_lacks_time : Stmt := topS 9
theorem sc_lacks_time : FnScope ["trust", "settled", "actor", "borne", "wish", "ties", "tie"] ["trust", "settled", "actor"] (defScope s_lacks_time) := ⟨rfl, rfl, rfl, by decide +kernel, rfl, by decide +kernel, by decide +kernel⟩
abbrev s__bears : Stmt := topS 10
theorem sc__bears : FnScope ["tie", "wishes", "wish"] ["tie", "wishes"] (defScope s__bears) := ⟨rfl, rfl, rfl, by decide +kernel, rfl, by decide +kernel, by decide +kernel⟩
abbrev s__above : Stmt := topS 11
theorem sc__above : FnScope ["settled", "actor", "found", "giver"] ["settled", "actor"] (defScope s__above) := ⟨rfl, rfl, rfl, by decide +kernel, rfl, by decide +kernel, by decide +kernel⟩
abbrev s_is_whole : Stmt := topS 17
theorem sc_is_whole : FnScope ["thing"] ["thing"] (defScope s_is_whole) := ⟨rfl, rfl, rfl, by decide +kernel, rfl, by decide +kernel, by decide +kernel⟩
abbrev s_is_between : Stmt := topS 18
theorem sc_is_between : FnScope ["thing", "least", "most"] ["thing", "least", "most"] (defScope s_is_between) := ⟨rfl, rfl, rfl, by decide +kernel, rfl, by decide +kernel, by decide +kernel⟩
abbrev s_is_moment : Stmt := topS 19
theorem sc_is_moment : FnScope ["thing"] ["thing"] (defScope s_is_moment) := ⟨rfl, rfl, rfl, by decide +kernel, rfl, by decide +kernel, by decide +kernel⟩
abbrev s_is_span : Stmt := topS 20
theorem sc_is_span : FnScope ["since", "until"] ["since", "until"] (defScope s_is_span) := ⟨rfl, rfl, rfl, by decide +kernel, rfl, by decide +kernel, by decide +kernel⟩
abbrev s_is_name : Stmt := topS 21
theorem sc_is_name : FnScope ["thing"] ["thing"] (defScope s_is_name) := ⟨rfl, rfl, rfl, by decide +kernel, rfl, by decide +kernel, by decide +kernel⟩
abbrev s_is_deeds : Stmt := topS 22
theorem sc_is_deeds : FnScope ["thing"] ["thing"] (defScope s_is_deeds) := ⟨rfl, rfl, rfl, by decide +kernel, rfl, by decide +kernel, by decide +kernel⟩
abbrev s_is_leave : Stmt := topS 32
theorem sc_is_leave : FnScope ["thing", "number", "room", "deeds", "giver", "holder", "since", "until", "passes", "under"] ["thing"] (defScope s_is_leave) := ⟨rfl, rfl, rfl, by decide +kernel, rfl, by decide +kernel, by decide +kernel⟩
abbrev s_lies_within : Stmt := topS 33
theorem sc_lies_within : FnScope ["leave", "other"] ["leave", "other"] (defScope s_lies_within) := ⟨rfl, rfl, rfl, by decide +kernel, rfl, by decide +kernel, by decide +kernel⟩
abbrev s_is_plan : Stmt := topS 36
theorem sc_is_plan : FnScope ["trust", "thing", "part", "holders", "row", "wish"] ["trust", "thing"] (defScope s_is_plan) := ⟨rfl, rfl, rfl, by decide +kernel, rfl, by decide +kernel, by decide +kernel⟩
abbrev s__is_planned : Stmt := topS 37
theorem sc__is_planned : FnScope ["thing"] ["thing"] (defScope s__is_planned) := ⟨rfl, rfl, rfl, by decide +kernel, rfl, by decide +kernel, by decide +kernel⟩
abbrev s__made_leave : Stmt := topS 38
theorem sc__made_leave : FnScope ["row", "giver", "holder", "deeds", "since", "until", "passes"] ["row"] (defScope s__made_leave) := ⟨rfl, rfl, rfl, by decide +kernel, rfl, by decide +kernel, by decide +kernel⟩
abbrev s__has_tie : Stmt := topS 39
theorem sc__has_tie : FnScope ["trust", "row", "since", "until", "ties", "tie"] ["trust", "row"] (defScope s__has_tie) := ⟨rfl, rfl, rfl, by decide +kernel, rfl, by decide +kernel, by decide +kernel⟩
abbrev s__has_giver : Stmt := topS 40
theorem sc__has_giver : FnScope ["trust", "plan", "row", "other"] ["trust", "plan", "row"] (defScope s__has_giver) := ⟨rfl, rfl, rfl, by decide +kernel, rfl, by decide +kernel, by decide +kernel⟩
abbrev s__is_granted : Stmt := topS 41
theorem sc__is_granted : FnScope ["plan", "wish", "actor", "deeds", "since", "until", "_", "holder", "granted", "first", "last", "deed"] ["plan", "wish"] (defScope s__is_granted) := ⟨rfl, rfl, rfl, by decide +kernel, rfl, by decide +kernel, by decide +kernel⟩
abbrev s_least_plan : Stmt := topS 42
theorem sc_least_plan : FnScope ["trust", "most", "settled", "plan", "actor"] ["trust"] (defScope s_least_plan) := ⟨rfl, rfl, rfl, by decide +kernel, rfl, by decide +kernel, by decide +kernel⟩
abbrev s__find_open : Stmt := topS 43
theorem sc__find_open : FnScope ["trust", "most", "settled", "actor", "giver", "found"] ["trust", "most", "settled"] (defScope s__find_open) := ⟨rfl, rfl, rfl, by decide +kernel, rfl, by decide +kernel, by decide +kernel⟩
abbrev s__grow_tree : Stmt := topS 44
theorem sc__grow_tree : FnScope ["trust", "most", "settled", "bar", "actor", "givers", "trees", "giver"] ["trust", "most", "settled"] (defScope s__grow_tree) := ⟨rfl, rfl, rfl, by decide +kernel, rfl, by decide +kernel, by decide +kernel⟩
abbrev s__planned : Stmt := topS 45
theorem sc__planned : FnScope ["trust", "settled", "actor", "given", "other", "borne", "row", "wish", "deeds", "deed", "part", "since", "until", "passes"] ["trust", "settled", "actor"] (defScope s__planned) := ⟨rfl, rfl, rfl, by decide +kernel, rfl, by decide +kernel, by decide +kernel⟩
abbrev s__law_cell_at : Stmt := topS 47
theorem sc__law_cell_at : FnScope ["script", "k"] ["script", "k"] (defScope s__law_cell_at) := ⟨rfl, rfl, rfl, by decide +kernel, rfl, by decide +kernel, by decide +kernel⟩
abbrev s__law_pool : Stmt := topS 48
theorem sc__law_pool : FnScope ["cell", "place"] ["cell", "place"] (defScope s__law_pool) := ⟨rfl, rfl, rfl, by decide +kernel, rfl, by decide +kernel, by decide +kernel⟩
abbrev s__law_draw : Stmt := topS 49
theorem sc__law_draw : FnScope ["pool", "many", "stir", "found"] ["pool", "many"] (defScope s__law_draw) := ⟨rfl, rfl, rfl, by decide +kernel, rfl, by decide +kernel, by decide +kernel⟩
abbrev s__law_names : Stmt := topS 50
theorem sc__law_names : FnScope ["pool", "many", "letters", "names", "k", "word", "j", "one", "letter"] ["pool", "many"] (defScope s__law_names) := ⟨rfl, rfl, rfl, by decide +kernel, rfl, by decide +kernel, by decide +kernel⟩
abbrev s__law_span : Stmt := topS 51
theorem sc__law_span : FnScope ["pool", "way", "since"] ["pool", "way"] (defScope s__law_span) := ⟨rfl, rfl, rfl, by decide +kernel, rfl, by decide +kernel, by decide +kernel⟩
abbrev s__law_trust : Stmt := topS 52
theorem sc__law_trust : FnScope ["pool", "most", "names", "kind", "ties", "k", "one", "other", "left", "wishes", "actor", "since", "deeds"] ["pool", "most"] (defScope s__law_trust) := ⟨rfl, rfl, rfl, by decide +kernel, rfl, by decide +kernel, by decide +kernel⟩
abbrev s__law_many : Stmt := topS 53
theorem sc__law_many : FnScope ["trust", "told"] ["trust"] (defScope s__law_many) := ⟨rfl, rfl, rfl, by decide +kernel, rfl, by decide +kernel, by decide +kernel⟩
abbrev s__law_more_right : Stmt := topS 54
theorem sc__law_more_right : FnScope ["pool", "trust", "many", "owner", "ties", "wishes", "names", "wish", "one", "other", "tie", "wide", "at", "actor", "deeds", "since", "until", "short"] ["pool", "trust", "many"] (defScope s__law_more_right) := ⟨rfl, rfl, rfl, by decide +kernel, rfl, by decide +kernel, by decide +kernel⟩
abbrev s__law_used : Stmt := topS 55
theorem sc__law_used : FnScope ["rows", "tie", "row"] ["rows", "tie"] (defScope s__law_used) := ⟨rfl, rfl, rfl, by decide +kernel, rfl, by decide +kernel, by decide +kernel⟩
abbrev s__law_left_right : Stmt := topS 56
theorem sc__law_left_right : FnScope ["pool", "trust", "rows", "owner", "ties", "wishes", "way", "spare", "tie", "fewer", "row", "less", "actors", "wish", "more"] ["pool", "trust", "rows"] (defScope s__law_left_right) := ⟨rfl, rfl, rfl, by decide +kernel, rfl, by decide +kernel, by decide +kernel⟩
abbrev s_law : Stmt := topS 57
theorem sc_law : FnScope ["script", "k", "pool", "trust", "told"] ["script"] (defScope s_law) := ⟨rfl, rfl, rfl, by decide +kernel, rfl, by decide +kernel, by decide +kernel⟩
local macro_rules | `(tactic| walk_at "sz") => `(tactic| first
  | exact Nat.le_of_ble_eq_true rfl
  | assumption
  | exact small_sz (Nat.le_of_ble_eq_true rfl)
  | (simp only [List.length_cons, List.length_nil, List.length_map, List.length_append]; first | omega | exact small_sz (by omega)))
local macro_rules | `(tactic| walk_at "x1") => `(tactic| first
  | with_reducible refine x_seq ?_
  | (with_reducible show wVar _ _ _); first | refine x_varF rfl ?_ | refine x_varO rfl ?_ | refine x_varV rfl ?_
  | with_reducible refine x_c ?_
  | with_reducible refine x_exf ?_
  | with_reducible refine x_excd ?_
  | (with_reducible show ∃ d1, Sl.cd (Sl.vw _) = some d1 ∧ _); refine x_excV rfl ?_
  | (with_reducible show ∃ d1, Sl.cd (Sl.own _) = some d1 ∧ _); refine x_excO rfl ?_
  | with_reducible refine x_binP ?_
  | with_reducible refine x_bin ?_
  | with_reducible refine x_adC ?_
  | with_reducible refine x_adN ?_
  | with_reducible refine x_lst ?_
  | with_reducible refine x_tup ?_
  | with_reducible refine x_lstO ?_
  | (with_reducible refine x_and (p := _ ≤ sizeLine) ?h ?_); (case h => walk_at "sz")
  | with_reducible refine x_callF ?_
  | with_reducible refine x_callL ?_
  | with_reducible refine x_listO ?_
  | with_reducible refine x_dstar ?_
  | with_reducible refine x_getN ?_
  | with_reducible refine x_ss ?_
  | with_reducible refine x_mulO ?_
  | with_reducible refine x_iZM ?_
  | with_reducible refine x_maxD ?_
  | with_reducible refine x_dictD ?_
  | (with_reducible show wCallU _ _ _ _ _); refine x_callU rfl ?_
  | with_reducible refine x_callV ?_
  | with_reducible refine x_join ?_
  | with_reducible refine x_waD ?_
  | with_reducible refine x_lc ?_
  | with_reducible refine x_lc2 ?_
  | with_reducible refine x_lenSets ?_
  | (with_reducible show wApp _ _ _ _); refine x_app rfl ?_
  | (with_reducible show wBinV _ _ _ _ _); refine x_binV rfl ?_
  | (with_reducible show wPopD _ _ _ _); refine x_popD rfl ?_
  | (with_reducible show wCatV _ _ _ _); refine x_catV rfl ?_
  | with_reducible refine x_slN2 ?_
  | with_reducible refine x_sortedSets ?_
  | with_reducible refine x_tplL ?_
  | with_reducible refine x_tplT ?_
  | with_reducible refine x_isB ?_
  | with_reducible refine x_r1 ?_
  | with_reducible refine x_r2 ?_
  | (with_reducible refine x_r1e ?h0 ?h1 ?_); (case h0 => omega); (case h1 => omega)
  | with_reducible refine x_iL ?_
  | with_reducible refine x_iT ?_
  | with_reducible refine x_iS ?_
  | with_reducible refine x_iE ?_
  | with_reducible refine x_iEe ?_
  | with_reducible refine x_yes ?_
  | with_reducible refine x_for ?_
  | (with_reducible show wLot _ [D.int _] _); (refine' x_lot (by assumption) ?h1 ?h2 ?h3 ?_); (case h1 => omega); (case h2 => first | decide | omega); (case h3 => first | decide | omega)
  | (with_reducible show ∃ o, _ = some (some (Sl.own o)) ∧ _); refine x_exO rfl ?_
  | with_reducible refine x_exo ?_
  | with_reducible refine x_ret ?_
  | with_reducible refine x_set ?_
  | with_reducible refine x_fin ?_
  | with_reducible refine x_fino ?_
  | (with_reducible refine x_and (p := _ < List.length _) ?h ?_); (case h => exact Nat.le_of_ble_eq_true rfl); (try dsimp only [List.set_cons_succ, List.set_cons_zero])
  | with_reducible refine x_next ?_
  | with_reducible refine x_retN ?_
  | with_reducible refine x_drop ?_
  | with_reducible refine x_asg ?_
  | (with_reducible refine x_gtp ?h ?_); (case h => rfl)
  | with_reducible refine x_gcons ?_
  | with_reducible refine x_gnil ?_
  | (with_reducible refine x_gn ?h ?_); (case h => exact Nat.le_of_ble_eq_true rfl); (try dsimp only [List.set_cons_succ, List.set_cons_zero])
  | with_reducible refine x_ifS ?_
  | with_reducible refine x_if ?_
  | with_reducible refine x_itT ?_
  | with_reducible refine x_itF ?_
  | with_reducible refine x_iteN ?_
  | with_reducible refine x_tru ?_
  | with_reducible refine x_tB ?_
  | with_reducible refine x_dtB ?_
  | with_reducible refine x_dtN ?_
  | with_reducible refine x_exb ?_
  | with_reducible refine x_exdb ?_
  | with_reducible refine x_tand ?_
  | with_reducible refine x_tor ?_
  | with_reducible refine x_tnot ?_
  | with_reducible refine x_and2 ?_
  | with_reducible refine x_or2 ?_
  | with_reducible refine x_not2 ?_
  | with_reducible refine x_chain ?_
  | with_reducible refine x_sub ?_
  | with_reducible refine x_addI ?_
  | (with_reducible refine x_addS ?h ?_); (case h => walk_at "sz")
  | (with_reducible refine x_addL ?h ?_); (case h => walk_at "sz")
  | (with_reducible refine x_addT ?h ?_); (case h => walk_at "sz")
  | with_reducible refine x_lt ?_
  | with_reducible refine x_le ?_
  | with_reducible refine x_gt ?_
  | with_reducible refine x_ge ?_
  | with_reducible refine x_ltS ?_
  | with_reducible refine x_eqI ?_
  | with_reducible refine x_neI ?_
  | with_reducible refine x_allSg ?_
  | with_reducible refine x_m0 ?_
  | with_reducible refine x_lstT ?_
  | with_reducible refine x_lstL ?_
  | with_reducible refine x_strB ?_
  | with_reducible refine x_strN ?_
  | with_reducible refine x_strS ?_
  | with_reducible refine x_isT ?_
  | with_reducible refine x_isI ?_
  | with_reducible refine x_neg ?_
  | with_reducible refine x_un ?_
  | (with_reducible refine x_pow ?h ?_); (case h => exact ⟨by decide, by decide +kernel⟩)
  | (with_reducible refine x_mod ?h ?_); (case h => first | decide | omega)
  | (with_reducible refine x_mul ?h ?_); (case h => exact mul_ok (by first | decide | omega) (by first | decide | omega))
  | (with_reducible refine x_div ?h ?_); (case h => exact div_ok (by first | decide | omega) (by first | decide | omega))
  | with_reducible refine x_ipA ?_
  | (with_reducible show wAugL _ _ _ _ _ _); refine x_augL rfl ?_
  | (with_reducible show wAug _ _ _ _ _); refine x_aug rfl ?_
  | (with_reducible show ∃ k' ds d, Sl.f (D.int _) = Sl.f (D.int k') ∧ _); refine x_augL1 rfl (by decide) rfl ?_
  | (with_reducible show ∃ k' j ds, Sl.f (D.int _) = Sl.f (D.int k') ∧ _ = some (some (Sl.own (O.lst ds))) ∧ ixN _ k' = some j ∧ _); refine x_setL1 rfl rfl ?_; (try dsimp only [List.set_cons_succ, List.set_cons_zero])
  | (with_reducible show ∃ ds j, _ = some (some (Sl.own (O.lst ds))) ∧ ixN _ _ = some j ∧ _); refine x_augL2 rfl rfl ?_; (try dsimp only [List.set_cons_succ, List.set_cons_zero])
  | (with_reducible show gSetL _ _ _ _ _); refine x_setL rfl ?_
  | (with_reducible show dIx (D.lst _) (D.int _) _); refine x_ixL rfl ?_
  | (with_reducible show dIx (D.tup _) (D.int _) _); refine x_ixT rfl ?_
  | with_reducible refine x_cb ?_
  | (with_reducible show wCB1 _ _ _ _); refine x_cb1 rfl rfl ?_
  | with_reducible refine x_fm ?_
  | with_reducible refine x_exl ?_
  | with_reducible refine x_ext ?_
  | with_reducible refine x_exs ?_
  | with_reducible refine x_exi ?_
  | with_reducible refine x_sl ?_
  | with_reducible refine x_slN ?_
  | with_reducible refine x_slS ?_
  | with_reducible refine x_frz ?_
  | with_reducible refine x_frL ?_
  | with_reducible refine x_revT ?_
  | with_reducible refine x_revL ?_
  | with_reducible refine x_splitO ?_
  | (with_reducible show wSlO _ _ _ _ _); refine x_slO rfl ?_
  | (with_reducible show ∃ ds2, _ = some (some (Sl.own (O.lst ds2))) ∧ _); refine x_exOl rfl ?_
  | with_reducible refine x_dictO ?_
  | with_reducible refine x_psC ?_
  | with_reducible refine x_psN ?_
  | with_reducible refine x_get ?_
  | (with_reducible show gSetSl _ _ _ _ _ _); refine x_setSl rfl ?_
  | with_reducible refine x_split ?_
  | with_reducible refine x_isN1 ?_
  | with_reducible refine x_isN0 rfl ?_
  | with_reducible refine x_iZ ?_
  | with_reducible refine x_zT ?_
  | with_reducible refine x_zL ?_
  | with_reducible refine x_stp ?_
  | with_reducible refine x_js ?_
  | with_reducible refine x_jsC ?_
  | with_reducible refine x_jsN ?_
  | with_reducible refine x_fmt ?_
  | with_reducible refine x_callFX ?_
  | (with_reducible refine x_glp ?h ?_); (case h => rfl)
  | with_reducible refine x_raiseR ?_
  | with_reducible refine x_row ?_
  | with_reducible refine x_lenL ?_
  | with_reducible refine x_lenT ?_
  | with_reducible refine x_lenD ?_
  | (with_reducible refine x_lenS ?h ?_); (case h => walk_at "sz")
  | with_reducible refine x_max ?_
  | with_reducible refine x_min ?_
  | with_reducible refine x_intI ?_
  | with_reducible refine x_intB ?_
  | (with_reducible refine x_isInt ?h ?_); (case h => first | assumption | exact part_ty (by assumption) | (intro _ hh; cases hh; done))
  | (with_reducible refine x_isBl ?h ?_); (case h => first | assumption | exact part_ty (by assumption) | (intro _ hh; cases hh; done))
  | (with_reducible refine x_isStr ?h ?_); (case h => first | assumption | exact part_ty (by assumption) | (intro _ hh; cases hh; done))
  | (with_reducible refine x_isTup ?h ?_); (case h => first | assumption | exact part_ty (by assumption) | (intro _ hh; cases hh; done))
  | (with_reducible refine x_isLst ?h ?_); (case h => first | assumption | exact part_ty (by assumption) | (intro _ hh; cases hh; done))
  | (with_reducible refine x_isDic ?h ?_); (case h => first | assumption | exact part_ty (by assumption) | (intro _ hh; cases hh; done))
  | (with_reducible refine x_itTe ?e ?_); (case e => rfl)
  | (with_reducible refine x_itFe ?e ?_); (case e => rfl)
  | with_reducible refine x_dnewO ?_
  | with_reducible refine x_dput ?_
  | with_reducible refine x_dix ?_
  | with_reducible refine x_sortedD ?_
  | with_reducible refine x_star ?_
  | with_reducible refine x_starT ?_
  | with_reducible refine x_frzD ?_
  | with_reducible refine x_sw ?_
  | with_reducible refine x_cnt ?_
  | with_reducible refine x_waC ?_
  | with_reducible refine x_waN ?_
  | with_reducible refine x_lenDD ?_
  | with_reducible refine x_allX ?_
  | (with_reducible show wFz _ _ _ _); refine x_fz rfl ?_
  | (with_reducible show wFzS _ _ _ _); refine x_fzS rfl ?_
  | (with_reducible show wFzO _ _ _ _); refine x_fzO rfl ?_
  | (with_reducible show wiK _ _ _); refine x_iK rfl ?_
  | (with_reducible show wiIt _ _ _); refine x_iIt rfl ?_
  | with_reducible refine x_iE1 ?_
  | with_reducible refine x_forR ?_
  | (with_reducible show wDIxV _ _ _ _); refine x_dixV rfl (cd_dicO _) ?_
  | (with_reducible show wDPop _ _ _ _); refine x_dpop rfl ?_
  | with_reducible refine x_pickO ?_
  | (with_reducible show wExt _ _ _ _); refine x_extO rfl ?_
  | with_reducible refine x_sortedR ?_
  | with_reducible refine x_sortedL ?_
  | with_reducible refine x_ixSt ?_
  | (with_reducible show wiVal _ _ _); refine x_iVal rfl ?_
  | with_reducible refine x_dictP ?_
  | with_reducible refine x_dictZip ?_
  | with_reducible refine x_revS ?_
  | with_reducible refine x_par ?_
  | (with_reducible show wIsiV _ _ _ _ _); refine x_isiV rfl ?_
  | ((with_reducible show _ ∧ _); refine And.intro (Nat.le_of_ble_eq_true rfl) ?_))
local macro_rules | `(tactic| walk_at "x") => `(tactic| repeat (walk_at "x1"))

structure Txt (K : PySem.W.Frag) (mg : Str → Option Value) : Prop where
  z_all : mg "all" = none
  z_any : mg "any" = none
  z_bool : mg "bool" = none
  z_int : mg "int" = none
  z_isinstance : mg "isinstance" = none
  z_len : mg "len" = none
  z_max : mg "max" = none
  z_min : mg "min" = none
  z_range : mg "range" = none
  z_set : mg "set" = none
  z_sorted : mg "sorted" = none
  z_str : mg "str" = none
  z_tuple : mg "tuple" = none
  g_ALL_DEEDS : ∃ v u, mg "ALL_DEEDS" = some u ∧ RelV v u ∧ ∀ H, Fz K H v (.tup [.tup [.str "look"], .tup [.str "set"], .tup [.str "look", .str "set"]])
  g_BOTH_DEEDS : ∃ v u, mg "BOTH_DEEDS" = some u ∧ RelV v u ∧ ∀ H, Fz K H v (.tup [.str "look", .str "set"])
  g_DEEDS : ∃ v u, mg "DEEDS" = some u ∧ RelV v u ∧ ∀ H, Fz K H v (.int 2)
  g_GIVER : ∃ v u, mg "GIVER" = some u ∧ RelV v u ∧ ∀ H, Fz K H v (.int 3)
  g_HOLDER : ∃ v u, mg "HOLDER" = some u ∧ RelV v u ∧ ∀ H, Fz K H v (.int 4)
  g_LAST_MOMENT : ∃ v u, mg "LAST_MOMENT" = some u ∧ RelV v u ∧ ∀ H, Fz K H v (.int 1000000)
  g_LONGEST_NAME : ∃ v u, mg "LONGEST_NAME" = some u ∧ RelV v u ∧ ∀ H, Fz K H v (.int 8)
  g_MOST_PASSES : ∃ v u, mg "MOST_PASSES" = some u ∧ RelV v u ∧ ∀ H, Fz K H v (.int 6)
  g_OWNER : ∃ v u, mg "OWNER" = some u ∧ RelV v u ∧ ∀ H, Fz K H v (.int 0)
  g_PASSES : ∃ v u, mg "PASSES" = some u ∧ RelV v u ∧ ∀ H, Fz K H v (.int 7)
  g_ROOM : ∃ v u, mg "ROOM" = some u ∧ RelV v u ∧ ∀ H, Fz K H v (.int 1)
  g_ROOM_NAME : ∃ v u, mg "ROOM_NAME" = some u ∧ RelV v u ∧ ∀ H, Fz K H v (.str "room")
  g_SINCE : ∃ v u, mg "SINCE" = some u ∧ RelV v u ∧ ∀ H, Fz K H v (.int 5)
  g_TIES : ∃ v u, mg "TIES" = some u ∧ RelV v u ∧ ∀ H, Fz K H v (.int 1)
  g_UNTIL : ∃ v u, mg "UNTIL" = some u ∧ RelV v u ∧ ∀ H, Fz K H v (.int 6)
  g_WISHES : ∃ v u, mg "WISHES" = some u ∧ RelV v u ∧ ∀ H, Fz K H v (.int 2)
section
variable {P : Program} {w : World} {K : PySem.W.Frag} {mg : Str → Option Value} {base : Heap} {tabs : List Addr}
/-! ### what the words are asked -/
def wholeB : D → Bool
  | .int _ => true
  | _ => false
def betwB (d : D) (lo hi : Int) : Bool := match d with
  | .int i => decide (lo ≤ i) && decide (i ≤ hi)
  | _ => false
def wWhole : WFn := fun ds Q => ∃ d, ds = [d] ∧ NoTy d ∧ Q (.f (.bl (wholeB d)))
theorem mono_is_whole : MonoF wWhole := fun ds Q Q' i ⟨d, h, n, q⟩ => ⟨d, h, n, i _ q⟩
theorem ok_whole (T : Txt K mg) (A : At K mg "is_whole" s_is_whole ["thing"]) : Cal P w K mg base 1 "is_whole" (spW K tabs (liftF wWhole)) := by
  refine A.of fun f fd F => fx_fnF F sc_is_whole (fun ds Q ⟨d, h, _⟩ => by rw [h]; rfl) fun cdv A outer s H E TT P0 σ0 hcd hr => ⟨_, (gss_one (gs_ret (ge_and (ge_cbB cax_isi (by rfl) T.z_isinstance (by decide +kernel) (gd_cons (GE.of_pure (gp_var (pv 0))) (gd_cons (GE.of_pure (gp_ty (n := "int") (by rfl) T.z_int (by decide +kernel))) gd_nil))) (ge_one (ge_not (ge_cbB cax_isi (by rfl) T.z_isinstance (by decide +kernel) (gd_cons (GE.of_pure (gp_var (pv 0))) (gd_cons (GE.of_pure (gp_ty (n := "bool") (by rfl) T.z_bool (by decide +kernel))) gd_nil)))))))), fun ds Q ⟨d, h, nt, k⟩ => ?_⟩
  subst h
  refine x_start (e := [some (.f d)]) rfl ?_
  cases d <;> first | exact absurd rfl (nt _) | (walk_at "x"; exact k)
def wBetween : WFn := fun ds Q => ∃ d lo hi, ds = [d, .int lo, .int hi] ∧ NoTy d ∧ Q (.f (.bl (betwB d lo hi)))
theorem mono_is_between : MonoF wBetween := fun ds Q Q' i ⟨d, lo, hi, h, n, q⟩ => ⟨d, lo, hi, h, n, i _ q⟩
theorem ok_between (T : Txt K mg) (c_is_whole : Cal P w K mg base 1 "is_whole" (spW K tabs (liftF wWhole))) (A : At K mg "is_between" s_is_between ["thing", "least", "most"]) : Cal P w K mg base 2 "is_between" (spW K tabs (liftF wBetween)) := by
  refine A.of fun f fd F => fx_fnF F sc_is_between (fun ds Q ⟨d, lo, hi, h, _⟩ => by rw [h]; rfl) fun cdv A outer s H E TT P0 σ0 hcd hr => ⟨_, (gss_one (gs_ret (ge_and (ge_callF c_is_whole hr (by first | decide | omega) rfl rfl rfl mono_is_whole (gd_cons (GE.of_pure (gp_var (pv 0))) gd_nil)) (ge_one (ge_chain opx_le opx_le (GE.of_pure (gp_var (pv 1))) (GE.of_pure (gp_var (pv 0))) (GE.of_pure (gp_var (pv 2)))))))), fun ds Q ⟨d, lo, hi, h, nt, k⟩ => ?_⟩
  subst h
  refine x_start (e := [some (.f d), some (.f (.int lo)), some (.f (.int hi))]) rfl ?_
  walk_at "x"
  refine ⟨d, rfl, nt, ?_⟩
  cases d with
  | ty m => exact absurd rfl (nt m)
  | int i =>
    walk_at "x"
    refine x_ite (fun h => ?_) (fun h => ?_)
    · walk_at "x"
      have e : betwB (.int i) lo hi = decide (i ≤ hi) := by simp only [betwB, h, Bool.true_and]
      rw [e] at k
      exact k
    · walk_at "x"
      have e : betwB (.int i) lo hi = false := by simp only [betwB, h, Bool.false_and]
      rw [e] at k
      exact k
  | _ => walk_at "x"; exact k
def wMoment : WFn := fun ds Q => ∃ d, ds = [d] ∧ NoTy d ∧ Q (.f (.bl (betwB d 0 1000000)))
theorem mono_is_moment : MonoF wMoment := fun ds Q Q' i ⟨d, h, n, q⟩ => ⟨d, h, n, i _ q⟩
theorem ok_moment (T : Txt K mg) (c_is_between : Cal P w K mg base 2 "is_between" (spW K tabs (liftF wBetween))) (A : At K mg "is_moment" s_is_moment ["thing"]) : Cal P w K mg base 3 "is_moment" (spW K tabs (liftF wMoment)) := by
  refine A.of fun f fd F => fx_fnF F sc_is_moment (fun ds Q ⟨d, h, _⟩ => by rw [h]; rfl) fun cdv A outer s H E TT P0 σ0 hcd hr => ⟨_, (gss_one (gs_ret (ge_callF c_is_between hr (by first | decide | omega) rfl rfl rfl mono_is_between (gd_cons (GE.of_pure (gp_var (pv 0))) (gd_cons (GE.of_pure gp_int) (gd_cons (GE.of_pure (gp_k T.g_LAST_MOMENT rfl)) gd_nil)))))), fun ds Q ⟨d, h, nt, k⟩ => ?_⟩
  subst h
  refine x_start (e := [some (.f d)]) rfl ?_
  walk_at "x"
  refine ⟨d, _, _, rfl, nt, ?_⟩
  walk_at "x"
  exact k
def ltB (a b : D) : Bool := match a, b with
  | .int i, .int j => decide (i < j)
  | _, _ => false
def spanB (a b : D) : Bool := betwB a 0 1000000 && (betwB b 0 1000000 && ltB a b)
theorem betw_int {d : D} {lo hi : Int} (h : betwB d lo hi = true) : ∃ i, d = .int i ∧ lo ≤ i ∧ i ≤ hi := by
  cases d with
  | int i =>
    have h : (decide (lo ≤ i) && decide (i ≤ hi)) = true := h
    rw [Bool.and_eq_true, decide_eq_true_iff, decide_eq_true_iff] at h
    exact ⟨i, rfl, h.1, h.2⟩
  | _ => cases h
def wSpan : WFn := fun ds Q => ∃ a b, ds = [a, b] ∧ NoTy a ∧ NoTy b ∧ Q (.f (.bl (spanB a b)))
theorem mono_is_span : MonoF wSpan := fun ds Q Q' i ⟨a, b, h, n, m, q⟩ => ⟨a, b, h, n, m, i _ q⟩
theorem ok_span (T : Txt K mg) (c_is_moment : Cal P w K mg base 3 "is_moment" (spW K tabs (liftF wMoment))) (A : At K mg "is_span" s_is_span ["since", "until"]) : Cal P w K mg base 4 "is_span" (spW K tabs (liftF wSpan)) := by
  refine A.of fun f fd F => fx_fnF F sc_is_span (fun ds Q ⟨a, b, h, _⟩ => by rw [h]; rfl) fun cdv A outer s H E TT P0 σ0 hcd hr => ⟨_, (gss_one (gs_ret (ge_and (ge_callF c_is_moment hr (by first | decide | omega) rfl rfl rfl mono_is_moment (gd_cons (GE.of_pure (gp_var (pv 0))) gd_nil)) (ge_and (ge_callF c_is_moment hr (by first | decide | omega) rfl rfl rfl mono_is_moment (gd_cons (GE.of_pure (gp_var (pv 1))) gd_nil)) (ge_one (GE.of_pure (gp_cmp opx_lt (gp_var (pv 0)) (gp_var (pv 1)) (nomark _)))))))), fun ds Q ⟨a, b, h, na, nb, k⟩ => ?_⟩
  subst h
  refine x_start (e := [some (.f a), some (.f b)]) rfl ?_
  walk_at "x"
  refine ⟨a, rfl, na, ?_⟩
  walk_at "x"
  refine x_ite (fun h1 => ?_) (fun h1 => ?_)
  · walk_at "x"
    refine ⟨b, rfl, nb, ?_⟩
    walk_at "x"
    refine x_ite (fun h2 => ?_) (fun h2 => ?_)
    · obtain ⟨i, rfl, _⟩ := betw_int h1
      obtain ⟨j, rfl, _⟩ := betw_int h2
      walk_at "x"
      have e : spanB (.int i) (.int j) = decide (i < j) := by unfold spanB; rw [h1, h2]; rfl
      rw [e] at k
      exact k
    · walk_at "x"
      have e : spanB a b = false := by unfold spanB; rw [h1, h2]; rfl
      rw [e] at k
      exact k
  · walk_at "x"
    have e : spanB a b = false := by unfold spanB; rw [h1]; rfl
    rw [e] at k
    exact k
/-! names -/
def nameB : D → Bool
  | .str a => decide ((1 : Int) ≤ (a.length : Int)) && (decide ((a.length : Int) ≤ 8) && Fx.nmB "a" "z" a)
  | _ => false
abbrev StrOk (d : D) : Prop := ∀ a, d = .str a → a.length ≤ sizeLine
def wName : WFn := fun ds Q => ∃ d, ds = [d] ∧ NoTy d ∧ StrOk d ∧ Q (.f (.bl (nameB d)))
theorem mono_is_name : MonoF wName := fun ds Q Q' i ⟨d, h, n, z, q⟩ => ⟨d, h, n, z, i _ q⟩
theorem ok_isname {c Pn : Addr} (in_is_name : Pn ∈ tabs) (T : Txt K mg) (tb_is_name : GxR.TabB base mg c Pn) (A : AtC K mg "is_name" s_is_name ["thing"] c) : Cal P w K mg base 1 "is_name" (spW K tabs (liftF wName)) := by
  refine A.of fun f fd F hc => fx_fnF F sc_is_name (fun ds Q ⟨d, h, _⟩ => by rw [h]; rfl) fun cdv A outer s H E TT P0 σ0 hcd hr => ?_
  obtain rfl : cdv = .ref c := hcd.symm.trans hc
  refine ⟨_, (gss_cons (gs_if (GW.gt (gw_or (gt_not (gt_tru (ge_cbB cax_isi (by rfl) T.z_isinstance (by decide +kernel) (gd_cons (GE.of_pure (gp_var (pv 0))) (gd_cons (GE.of_pure (gp_ty (n := "str") (by rfl) T.z_str (by decide +kernel))) gd_nil))))) (gw_or1 (gt_not (gt_chain opx_le opx_le (GE.of_pure gp_int) (ge_cbB1 cax_len (by rfl) T.z_len (by decide +kernel) (pv 0)) (GE.of_pure (gp_k T.g_LONGEST_NAME rfl)))))))
      (gss_one (gs_ret (GE.of_pure gp_bl)))
      gss_nil)
      (gss_one (gs_ret (ge_allSgR tb_is_name hr rfl T.z_all rfl (genS0 (by decide +kernel)) (GE.of_pure (gp_var (pv 0))) (fun _ => rfl) in_is_name rfl rfl)))), fun ds Q ⟨d, h, nt, hz, k⟩ => ?_⟩
  subst h
  refine x_start (e := [some (.f d)]) rfl ?_
  cases d with
  | ty m => exact absurd rfl (nt m)
  | str a =>
    have z := hz a rfl
    walk_at "x"
    refine x_ite (fun h1 => ?_) (fun h1 => ?_)
    · walk_at "x"
      refine x_ite (fun h2 => ?_) (fun h2 => ?_)
      · walk_at "x"
        have e : nameB (.str a) = Fx.nmB "a" "z" a := by simp only [nameB, h1, h2, Bool.true_and]
        rw [e] at k
        exact k
      · walk_at "x"
        have e : nameB (.str a) = false := by simp only [nameB, h2, Bool.false_and, Bool.and_false]
        rw [e] at k
        exact k
    · walk_at "x"
      have e : nameB (.str a) = false := by simp only [nameB, h1, Bool.false_and]
      rw [e] at k
      exact k
  | _ => walk_at "x"; exact k
theorem name_str {d : D} (h : nameB d = true) : ∃ a, d = .str a ∧ a.length ≤ 8 := by
  cases d with
  | str a =>
    refine ⟨a, rfl, ?_⟩
    simp only [nameB, Bool.and_eq_true, decide_eq_true_iff] at h
    omega
  | _ => cases h
/-! deeds -/
def allDeeds : List D := [.tup [.str "look"], .tup [.str "set"], .tup [.str "look", .str "set"]]
def deedsB : D → Bool
  | .tup ds => ds.all Fx.isStr && memB allDeeds (.tup ds)
  | _ => false
abbrev TupOk (d : D) : Prop := ∀ ds, d = .tup ds → (∀ x ∈ ds, NoTy x) ∧ (ds.all Fx.isStr = true → okPy (.tup ds) = true)
def wDeeds : WFn := fun ds Q => ∃ d, ds = [d] ∧ NoTy d ∧ TupOk d ∧ Q (.f (.bl (deedsB d)))
theorem mono_is_deeds : MonoF wDeeds := fun ds Q Q' i ⟨d, h, n, z, q⟩ => ⟨d, h, n, z, i _ q⟩
theorem ok_deeds {c Pd : Addr} (in_is_deeds : Pd ∈ tabs) (T : Txt K mg) (tb_is_deeds : GxR.TabB base mg c Pd) (A : AtC K mg "is_deeds" s_is_deeds ["thing"] c) : Cal P w K mg base 1 "is_deeds" (spW K tabs (liftF wDeeds)) := by
  refine A.of fun f fd F hc => fx_fnF F sc_is_deeds (fun ds Q ⟨d, h, _⟩ => by rw [h]; rfl) fun cdv A outer s H E TT P0 σ0 hcd hr => ?_
  obtain rfl : cdv = .ref c := hcd.symm.trans hc
  refine ⟨_, (gss_cons (gs_if (GW.gt (gw_or (gt_not (gt_tru (ge_cbB cax_isi (by rfl) T.z_isinstance (by decide +kernel) (gd_cons (GE.of_pure (gp_var (pv 0))) (gd_cons (GE.of_pure (gp_ty (n := "tuple") (by rfl) T.z_tuple (by decide +kernel))) gd_nil))))) (gw_or1 (gt_not (gt_tru (ge_allStrR tb_is_deeds hr rfl T.z_all rfl (genS0 (by decide +kernel)) (GE.of_pure (gp_var (pv 0))) (fun _ => rfl) in_is_deeds rfl rfl rfl T.z_isinstance rfl T.z_str))))))
      (gss_one (gs_ret (GE.of_pure gp_bl)))
      gss_nil)
      (gss_one (gs_ret (GE.of_pure (gp_cmp (opx_in hr.u65) (gp_var (pv 0)) (gp_k T.g_ALL_DEEDS rfl) (by rfl)))))), fun ds Q ⟨d, h, nt, hz, k⟩ => ?_⟩
  subst h
  refine x_start (e := [some (.f d)]) rfl ?_
  cases d with
  | ty m => exact absurd rfl (nt m)
  | tup ds =>
    obtain ⟨z1, z2⟩ := hz ds rfl
    walk_at "x"
    refine x_allStr ?_
    walk_at "x"
    refine ⟨z1, ?_⟩
    walk_at "x"
    refine x_ite (fun h1 => ?_) (fun h1 => ?_)
    · walk_at "x"
      refine x_inT (z2 h1) (by decide +kernel) ?_
      walk_at "x"
      have e : deedsB (.tup ds) = memB allDeeds (.tup ds) := by simp only [deedsB, h1, Bool.true_and]
      rw [e] at k
      exact k
    · walk_at "x"
      have e : deedsB (.tup ds) = false := by simp only [deedsB, h1, Bool.false_and]
      rw [e] at k
      exact k
  | _ => walk_at "x"; exact k
/-! leaves -/
def szB : D → Bool
  | .str a => decide (a.length ≤ sizeLine)
  | _ => true
def part (d : D) : Bool := (okPy d && szB d) || Fx.isDic d
def Good (d : D) : Prop := NoTy d ∧ ∀ ds, d = .tup ds → ∀ x ∈ ds, part x = true
theorem okPy_ty {d : D} (h : d.py.canLay0 = true) : NoTy d := fun m e => by
  subst e
  have h : false = true := h
  cases h
theorem okPy_tup {ds : List D} (h : PyData.canLayAll0 (D.pyL ds) = true) : ∀ x ∈ ds, NoTy x := by
  induction ds with
  | nil => intro x hx; cases hx
  | cons d ds ih =>
    have h : (d.py.canLay0 && PyData.canLayAll0 (D.pyL ds)) = true := h
    rw [Bool.and_eq_true] at h
    intro x hx
    rcases List.mem_cons.mp hx with rfl | hx
    · exact okPy_ty h.1
    · exact ih h.2 x hx
theorem part_ty {d : D} (h : part d = true) : NoTy d := by
  unfold part at h
  rw [Bool.or_eq_true, Bool.and_eq_true] at h
  rcases h with h | h
  · exact okPy_ty (SeqAt.canLay_of_shaped h.1)
  · intro m e
    subst e
    have h : false = true := h
    cases h
theorem part_tok {d : D} (h : part d = true) : TupOk d := fun ds e => by
  subst e
  unfold part at h
  rw [Bool.or_eq_true, Bool.and_eq_true] at h
  rcases h with h | h
  · exact ⟨okPy_tup (SeqAt.canLay_of_shaped h.1), fun _ => h.1⟩
  · have h : false = true := h
    cases h
theorem part_sok {d : D} (h : part d = true) : StrOk d := fun a e => by
  subst e
  unfold part at h
  rw [Bool.or_eq_true, Bool.and_eq_true] at h
  rcases h with h | h
  · exact of_decide_eq_true h.2
  · have h : false = true := h
    cases h
theorem part_name {d : D} (h : part d = true) (n : nameB d = true) : okPy d = true := by
  obtain ⟨a, rfl, _⟩ := name_str n
  unfold part at h
  rw [Bool.or_eq_true, Bool.and_eq_true] at h
  rcases h with h | h
  · exact h.1
  · have h : false = true := h
    cases h
def underB (v n : D) : Bool := Fx.isNon v || (match n with | .int i => betwB v 0 (i - 1) | _ => false)
def gezB : D → Bool
  | .int i => decide (0 ≤ i)
  | _ => false
def leaveB : D → Bool
  | .tup [n, room, deeds, g, h, s, u, p, v] => gezB n && (nameB room && (deedsB deeds && (nameB g && (nameB h && (!eqB g h && (spanB s u && (betwB p 0 6 && underB v n)))))))
  | _ => false
def wLeave : WFn := fun ds Q => ∃ d, ds = [d] ∧ Good d ∧ Q (.f (.bl (leaveB d)))
theorem mono_is_leave : MonoF wLeave := fun ds Q Q' i ⟨d, h, n, q⟩ => ⟨d, h, n, i _ q⟩
theorem len_is_leave : ∀ ds Q, wLeave ds Q → ds.length = (["thing"] : List Str).length := fun ds Q ⟨d, h, _⟩ => by rw [h]; rfl
theorem leave_fn {c_1 : Nat} (T : Txt K mg) (c_is_whole : Cal P w K mg base 1 "is_whole" (spW K tabs (liftF wWhole))) (c_is_between : Cal P w K mg base 2 "is_between" (spW K tabs (liftF wBetween))) (c_is_span : Cal P w K mg base 4 "is_span" (spW K tabs (liftF wSpan)))
    (c_is_name : Cal P w K mg base 1 "is_name" (spW K tabs (liftF wName))) (c_is_deeds : Cal P w K mg base 1 "is_deeds" (spW K tabs (liftF wDeeds))) {f : Addr} {fd : FuncData} (F : Fun K "is_leave" "is_leave" s_is_leave f fd) : FnOk P w K mg base CX0 5 f fd ["thing"] (spW K tabs (liftF wLeave)) := by
  refine fx_fnF F sc_is_leave len_is_leave fun cdv A outer s H E TT P0 σ0 hcd hr => ⟨_, (gss_cons (gs_if (GW.gt (gw_or (gt_not (gt_tru (ge_cbB cax_isi (by rfl) T.z_isinstance (by decide +kernel) (gd_cons (GE.of_pure (gp_var (pv 0))) (gd_cons (GE.of_pure (gp_ty (n := "tuple") (by rfl) T.z_tuple (by decide +kernel))) gd_nil))))) (gw_or1 (gt_cmp (opx_ne hr.units) (ge_cbB1 cax_len (by rfl) T.z_len (by decide +kernel) (pv 0)) (GE.of_pure gp_int) (nomark _)))))
      (gss_one (gs_ret (GE.of_pure gp_bl)))
      gss_nil)
      (gss_cons (gs_asg (GE.of_pure (gp_var (pv 0))) (gg_tup (n := 9) rfl (ggs_cons (pg_name (i := 1) sc_is_leave.nd rfl (Or.inl rfl)) rfl (ggs_cons (pg_name (i := 2) sc_is_leave.nd rfl (Or.inl rfl)) rfl (ggs_cons (pg_name (i := 3) sc_is_leave.nd rfl (Or.inl rfl)) rfl (ggs_cons (pg_name (i := 4) sc_is_leave.nd rfl (Or.inl rfl)) rfl (ggs_cons (pg_name (i := 5) sc_is_leave.nd rfl (Or.inl rfl)) rfl (ggs_cons (pg_name (i := 6) sc_is_leave.nd rfl (Or.inl rfl)) rfl (ggs_cons (pg_name (i := 7) sc_is_leave.nd rfl (Or.inl rfl)) rfl (ggs_cons (pg_name (i := 8) sc_is_leave.nd rfl (Or.inl rfl)) rfl (ggs_cons (pg_name (i := 9) sc_is_leave.nd rfl (Or.inl rfl)) rfl ggs_nil)))))))))))
      (gss_cons (gs_if (GW.gt (gw_or (gt_not (gt_tru (ge_callF c_is_whole hr (by first | decide | omega) rfl rfl rfl mono_is_whole (gd_cons (GE.of_pure (gp_var (pv 1))) gd_nil)))) (gw_or1 (gt_cmpP opx_lt (gp_var (pv 1)) gp_int (nomark _)))))
      (gss_one (gs_ret (GE.of_pure gp_bl)))
      gss_nil)
      (gss_cons (gs_if (GW.gt (gw_or (gt_not (gt_tru (ge_callF c_is_name hr (by first | decide | omega) rfl rfl rfl mono_is_name (gd_cons (GE.of_pure (gp_var (pv 2))) gd_nil)))) (gw_or1 (gt_not (gt_tru (ge_callF c_is_deeds hr (by first | decide | omega) rfl rfl rfl mono_is_deeds (gd_cons (GE.of_pure (gp_var (pv 3))) gd_nil)))))))
      (gss_one (gs_ret (GE.of_pure gp_bl)))
      gss_nil)
      (gss_cons (gs_if (GW.gt (gw_or (gt_not (gt_tru (ge_callF c_is_name hr (by first | decide | omega) rfl rfl rfl mono_is_name (gd_cons (GE.of_pure (gp_var (pv 4))) gd_nil)))) (gw_or (gt_not (gt_tru (ge_callF c_is_name hr (by first | decide | omega) rfl rfl rfl mono_is_name (gd_cons (GE.of_pure (gp_var (pv 5))) gd_nil)))) (gw_or1 (gt_cmpP (opx_eq hr.units) (gp_var (pv 4)) (gp_var (pv 5)) (nomark _))))))
      (gss_one (gs_ret (GE.of_pure gp_bl)))
      gss_nil)
      (gss_cons (gs_if (GW.gt (gw_or (gt_not (gt_tru (ge_callF c_is_span hr (by first | decide | omega) rfl rfl rfl mono_is_span (gd_cons (GE.of_pure (gp_var (pv 6))) (gd_cons (GE.of_pure (gp_var (pv 7))) gd_nil))))) (gw_or1 (gt_not (gt_tru (ge_callF c_is_between hr (by first | decide | omega) rfl rfl rfl mono_is_between (gd_cons (GE.of_pure (gp_var (pv 8))) (gd_cons (GE.of_pure gp_int) (gd_cons (GE.of_pure (gp_k T.g_MOST_PASSES rfl)) gd_nil)))))))))
      (gss_one (gs_ret (GE.of_pure gp_bl)))
      gss_nil)
      (gss_one (gs_ret (ge_or (GE.of_pure (gp_cmp opx_isN (gp_var (pv 9)) gp_non (nomark _))) (ge_one (ge_callF c_is_between hr (by first | decide | omega) rfl rfl rfl mono_is_between (gd_cons (GE.of_pure (gp_var (pv 9))) (gd_cons (GE.of_pure gp_int) (gd_cons (GE.of_pure (gp_op opx_sub (gp_var (pv 1)) gp_int)) gd_nil)))))))))))))), fun ds Q ⟨d, h, ⟨nt, hg⟩, k⟩ => ?_⟩
  subst h
  refine x_start (e := [some (.f d), none, none, none, none, none, none, none, none, none]) rfl ?_
  cases d with
  | ty m => exact absurd rfl (nt m)
  | tup ds =>
    have hg := hg ds rfl
    walk_at "x"
    by_cases hl : ds.length = 9
    · obtain ⟨n, room, deeds, g, h, s, u, p, v, rfl⟩ := nine hl
      have gn := hg n (by simp)
      have groom := hg room (by simp)
      have gdeeds := hg deeds (by simp)
      have gg := hg g (by simp)
      have gh := hg h (by simp)
      have gs := hg s (by simp)
      have gu := hg u (by simp)
      have gp := hg p (by simp)
      have gv := hg v (by simp)
      walk_at "x"
      refine ⟨n, rfl, part_ty gn, ?_⟩
      walk_at "x"
      have kf : leaveB (.tup [n, room, deeds, g, h, s, u, p, v]) = false → Q (.f (.bl false)) := fun e => by rw [e] at k; exact k
      refine x_ite (fun h1 => ?_) (fun h1 => ?_)
      · obtain ⟨i, rfl⟩ : ∃ i, n = .int i := by cases n <;> first | exact ⟨_, rfl⟩ | cases h1
        walk_at "x"
        refine x_iteD (fun h2 => ?_) (fun h2 => ?_)
        · walk_at "x"
          exact kf (by simp only [leaveB, gezB, show decide (0 ≤ i) = false from decide_eq_false (by omega), Bool.false_and])
        · have h2' : gezB (.int i) = true := decide_eq_true (show 0 ≤ i by omega)
          walk_at "x"
          refine ⟨room, rfl, part_ty groom, part_sok groom, ?_⟩
          walk_at "x"
          refine x_ite (fun h3 => ?_) (fun h3 => ?_)
          · walk_at "x"
            refine ⟨deeds, rfl, part_ty gdeeds, part_tok gdeeds, ?_⟩
            walk_at "x"
            refine x_ite (fun h4 => ?_) (fun h4 => ?_)
            · walk_at "x"
              refine ⟨g, rfl, part_ty gg, part_sok gg, ?_⟩
              walk_at "x"
              refine x_ite (fun h5 => ?_) (fun h5 => ?_)
              · walk_at "x"
                refine ⟨h, rfl, part_ty gh, part_sok gh, ?_⟩
                walk_at "x"
                refine x_ite (fun h6 => ?_) (fun h6 => ?_)
                · walk_at "x"
                  refine x_eqD (part_name gg h5) (part_name gh h6) ?_
                  walk_at "x"
                  refine x_ite (fun h7 => ?_) (fun h7 => ?_)
                  · walk_at "x"
                    exact kf (by simp only [leaveB, h7, Bool.not_true, Bool.false_and, Bool.and_false])
                  · walk_at "x"
                    refine ⟨s, u, rfl, part_ty gs, part_ty gu, ?_⟩
                    walk_at "x"
                    refine x_ite (fun h8 => ?_) (fun h8 => ?_)
                    · walk_at "x"
                      refine ⟨p, _, _, rfl, part_ty gp, ?_⟩
                      walk_at "x"
                      refine x_ite (fun h9 => ?_) (fun h9 => ?_)
                      · walk_at "x"
                        refine x_isN ?_
                        walk_at "x"
                        have e : leaveB (.tup [.int i, room, deeds, g, h, s, u, p, v]) = underB v (.int i) := by simp only [leaveB, h2', h3, h4, h5, h6, h7, h8, h9, Bool.true_and, Bool.not_false]
                        rw [e] at k
                        refine x_ite (fun h0 => ?_) (fun h0 => ?_)
                        · walk_at "x"
                          have h0' : Fx.isNon v = true := by cases hv : Fx.isNon v <;> rw [hv] at h0 <;> first | rfl | cases h0
                          have e2 : underB v (.int i) = true := by simp only [underB, h0', Bool.true_or]
                          rw [e2] at k
                          exact k
                        · walk_at "x"
                          have h0' : Fx.isNon v = false := by cases hv : Fx.isNon v <;> rw [hv] at h0 <;> first | rfl | cases h0
                          refine ⟨v, _, _, rfl, part_ty gv, ?_⟩
                          walk_at "x"
                          have e2 : underB v (.int i) = betwB v 0 (i - 1) := by simp only [underB, h0', Bool.false_or]
                          rw [e2] at k
                          exact k
                      · walk_at "x"
                        exact kf (by simp only [leaveB, h9, Bool.false_and, Bool.and_false])
                    · walk_at "x"
                      exact kf (by simp only [leaveB, h8, Bool.false_and, Bool.and_false])
                · walk_at "x"
                  exact kf (by simp only [leaveB, h6, Bool.false_and, Bool.and_false])
              · walk_at "x"
                exact kf (by simp only [leaveB, h5, Bool.false_and, Bool.and_false])
            · walk_at "x"
              exact kf (by simp only [leaveB, h4, Bool.false_and, Bool.and_false])
          · walk_at "x"
            exact kf (by simp only [leaveB, h3, Bool.false_and, Bool.and_false])
      · walk_at "x"
        have e : gezB n = false := by cases n <;> first | rfl | cases h1
        exact kf (by simp only [leaveB, e, Bool.false_and])
    · have e : leaveB (.tup ds) = false := by
        unfold leaveB
        split
        · rename_i h; cases h; exact absurd rfl hl
        · rfl
      rw [e] at k
      refine x_iteD (fun h => absurd (by exact_mod_cast h) hl) (fun _ => ?_)
      walk_at "x"
      exact k
  | _ => walk_at "x"; exact k
/-! ### ties and wishes -/
/-! ### trusts -/
def nm0 : D → Str
  | .tup (.str a :: _) => a
  | _ => Str.empty
theorem rng_all (p : Nat → Bool) : ∀ l : List Nat, (List.range l.length).all (GxR.trF p l) = l.all p
  | [] => rfl
  | c :: l => by
    rw [List.length_cons, List.range_succ_eq_map, List.all_cons, List.all_map, List.all_cons, ← rng_all p l]
    rfl
theorem okPy_strs {xs : List Str} (h : ∀ x ∈ xs, PyData.strOk x = true) : okPy (.lst (xs.map D.str)) = true := by
  have key : PyData.canLayAll0 (D.pyL (xs.map D.str)) = true ∧ PyData.depthAll (D.pyL (xs.map D.str)) = 0 := by
    induction xs with
    | nil => exact ⟨by show PyData.canLayAll0 [] = true; unfold PyData.canLayAll0; rfl, by show PyData.depthAll [] = 0; unfold PyData.depthAll; rfl⟩
    | cons c l ih =>
      obtain ⟨i1, i2⟩ := ih fun c hc => h c (List.mem_cons_of_mem _ hc)
      have hc := h c (List.mem_cons_self ..)
      refine ⟨?_, ?_⟩
      · show PyData.canLayAll0 (.str c :: D.pyL (l.map D.str)) = true
        unfold PyData.canLayAll0
        rw [i1, Bool.and_true]
        unfold PyData.canLay0
        exact hc
      · show PyData.depthAll (.str c :: D.pyL (l.map D.str)) = 0
        unfold PyData.depthAll
        rw [i2]
        unfold PyData.depth
        rfl
  unfold okPy SeqAt.shaped
  rw [Bool.and_eq_true]
  refine ⟨?_, ?_⟩
  · show PyData.canLay0 (.list (D.pyL (xs.map D.str))) = true
    unfold PyData.canLay0
    exact key.1
  · show decide (PyData.depth (.list (D.pyL (xs.map D.str))) ≤ 64) = true
    unfold PyData.depth
    rw [key.2]
    rfl
theorem name_cp {a : Str} (h : nameB (.str a) = true) : PyData.strOk a = true := by
  have h : (decide ((1 : Int) ≤ (a.length : Int)) && (decide ((a.length : Int) ≤ 8) && Fx.nmB "a" "z" a)) = true := h
  rw [Bool.and_eq_true, Bool.and_eq_true] at h
  have h := h.2.2
  unfold Fx.nmB at h
  rw [show a.cps.size = a.cps.toList.length by simp, rng_all, List.all_eq_true] at h
  refine strOk_list fun c hc => ?_
  have b := h c hc
  unfold btw at b
  rw [Bool.and_eq_true, show (Str.ofString "z").cps.toList = [122] by decide +kernel] at b
  have b := b.2
  by_cases hz : 122 < c
  · have l : [122] < [c] := List.Lex.rel hz
    rw [decide_eq_true l] at b
    cases b
  · omega
theorem mem_strs {x : Str} : ∀ {xs : List Str}, memB (xs.map D.str) (.str x) = xs.contains x
  | [] => rfl
  | y :: ys => by
    show (PyData.eqv (.str y) (.str x) || memB (ys.map D.str) (.str x)) = _
    rw [mem_strs (xs := ys), List.contains_cons]
    congr 1
    show PyData.eqv (.str y) (.str x) = _
    unfold PyData.eqv
    first | exact BEq.comm | (by_cases h : y = x <;> simp [h, eq_comm])
theorem eq_strs {x y : Str} : eqB (.str x) (.str y) = (x == y) := by
  show PyData.eqv (.str x) (.str y) = _
  unfold PyData.eqv
  first | rfl | (by_cases h : x = y <;> simp [h])
end
end K85

namespace K85
open PySem PySem.Spec PyProof.Rows L2 Lk Evl Fx
local macro_rules | `(tactic| walk_at "sz") => `(tactic| first
  | exact Nat.le_of_ble_eq_true rfl
  | assumption
  | exact small_sz (Nat.le_of_ble_eq_true rfl)
  | (simp only [List.length_cons, List.length_nil, List.length_map, List.length_append]; first | omega | exact small_sz (by omega)))
local macro_rules | `(tactic| walk_at "x1") => `(tactic| first
  | with_reducible refine x_seq ?_
  | (with_reducible show wVar _ _ _); first | refine x_varF rfl ?_ | refine x_varO rfl ?_ | refine x_varV rfl ?_
  | with_reducible refine x_c ?_
  | with_reducible refine x_exf ?_
  | with_reducible refine x_excd ?_
  | (with_reducible show ∃ d1, Sl.cd (Sl.vw _) = some d1 ∧ _); refine x_excV rfl ?_
  | (with_reducible show ∃ d1, Sl.cd (Sl.own _) = some d1 ∧ _); refine x_excO rfl ?_
  | with_reducible refine x_binP ?_
  | with_reducible refine x_bin ?_
  | with_reducible refine x_adC ?_
  | with_reducible refine x_adN ?_
  | with_reducible refine x_lst ?_
  | with_reducible refine x_tup ?_
  | with_reducible refine x_lstO ?_
  | (with_reducible refine x_and (p := _ ≤ sizeLine) ?h ?_); (case h => walk_at "sz")
  | with_reducible refine x_callF ?_
  | with_reducible refine x_callL ?_
  | with_reducible refine x_listO ?_
  | with_reducible refine x_dstar ?_
  | with_reducible refine x_getN ?_
  | with_reducible refine x_ss ?_
  | with_reducible refine x_mulO ?_
  | with_reducible refine x_iZM ?_
  | with_reducible refine x_maxD ?_
  | with_reducible refine x_dictD ?_
  | (with_reducible show wCallU _ _ _ _ _); refine x_callU rfl ?_
  | with_reducible refine x_callV ?_
  | with_reducible refine x_join ?_
  | with_reducible refine x_waD ?_
  | with_reducible refine x_lc ?_
  | with_reducible refine x_lc2 ?_
  | with_reducible refine x_lenSets ?_
  | (with_reducible show wApp _ _ _ _); refine x_app rfl ?_
  | (with_reducible show wBinV _ _ _ _ _); refine x_binV rfl ?_
  | (with_reducible show wPopD _ _ _ _); refine x_popD rfl ?_
  | (with_reducible show wCatV _ _ _ _); refine x_catV rfl ?_
  | with_reducible refine x_slN2 ?_
  | with_reducible refine x_sortedSets ?_
  | with_reducible refine x_tplL ?_
  | with_reducible refine x_tplT ?_
  | with_reducible refine x_isB ?_
  | with_reducible refine x_r1 ?_
  | with_reducible refine x_r2 ?_
  | (with_reducible refine x_r1e ?h0 ?h1 ?_); (case h0 => omega); (case h1 => omega)
  | with_reducible refine x_iL ?_
  | with_reducible refine x_iT ?_
  | with_reducible refine x_iS ?_
  | with_reducible refine x_iE ?_
  | with_reducible refine x_iEe ?_
  | with_reducible refine x_yes ?_
  | with_reducible refine x_for ?_
  | (with_reducible show wLot _ [D.int _] _); (refine' x_lot (by assumption) ?h1 ?h2 ?h3 ?_); (case h1 => omega); (case h2 => first | decide | omega); (case h3 => first | decide | omega)
  | (with_reducible show ∃ o, _ = some (some (Sl.own o)) ∧ _); refine x_exO rfl ?_
  | with_reducible refine x_exo ?_
  | with_reducible refine x_ret ?_
  | with_reducible refine x_set ?_
  | with_reducible refine x_fin ?_
  | with_reducible refine x_fino ?_
  | (with_reducible refine x_and (p := _ < List.length _) ?h ?_); (case h => exact Nat.le_of_ble_eq_true rfl); (try dsimp only [List.set_cons_succ, List.set_cons_zero])
  | with_reducible refine x_next ?_
  | with_reducible refine x_retN ?_
  | with_reducible refine x_drop ?_
  | with_reducible refine x_asg ?_
  | (with_reducible refine x_gtp ?h ?_); (case h => rfl)
  | with_reducible refine x_gcons ?_
  | with_reducible refine x_gnil ?_
  | (with_reducible refine x_gn ?h ?_); (case h => exact Nat.le_of_ble_eq_true rfl); (try dsimp only [List.set_cons_succ, List.set_cons_zero])
  | with_reducible refine x_ifS ?_
  | with_reducible refine x_if ?_
  | with_reducible refine x_itT ?_
  | with_reducible refine x_itF ?_
  | with_reducible refine x_iteN ?_
  | with_reducible refine x_tru ?_
  | with_reducible refine x_tB ?_
  | with_reducible refine x_dtB ?_
  | with_reducible refine x_dtN ?_
  | with_reducible refine x_exb ?_
  | with_reducible refine x_exdb ?_
  | with_reducible refine x_tand ?_
  | with_reducible refine x_tor ?_
  | with_reducible refine x_tnot ?_
  | with_reducible refine x_and2 ?_
  | with_reducible refine x_or2 ?_
  | with_reducible refine x_not2 ?_
  | with_reducible refine x_chain ?_
  | with_reducible refine x_sub ?_
  | with_reducible refine x_addI ?_
  | (with_reducible refine x_addS ?h ?_); (case h => walk_at "sz")
  | (with_reducible refine x_addL ?h ?_); (case h => walk_at "sz")
  | (with_reducible refine x_addT ?h ?_); (case h => walk_at "sz")
  | with_reducible refine x_lt ?_
  | with_reducible refine x_le ?_
  | with_reducible refine x_gt ?_
  | with_reducible refine x_ge ?_
  | with_reducible refine x_ltS ?_
  | with_reducible refine x_eqI ?_
  | with_reducible refine x_neI ?_
  | with_reducible refine x_allSg ?_
  | with_reducible refine x_m0 ?_
  | with_reducible refine x_lstT ?_
  | with_reducible refine x_lstL ?_
  | with_reducible refine x_strB ?_
  | with_reducible refine x_strN ?_
  | with_reducible refine x_strS ?_
  | with_reducible refine x_isT ?_
  | with_reducible refine x_isI ?_
  | with_reducible refine x_neg ?_
  | with_reducible refine x_un ?_
  | (with_reducible refine x_pow ?h ?_); (case h => exact ⟨by decide, by decide +kernel⟩)
  | (with_reducible refine x_mod ?h ?_); (case h => first | decide | omega)
  | (with_reducible refine x_mul ?h ?_); (case h => exact mul_ok (by first | decide | omega) (by first | decide | omega))
  | (with_reducible refine x_div ?h ?_); (case h => exact div_ok (by first | decide | omega) (by first | decide | omega))
  | with_reducible refine x_ipA ?_
  | (with_reducible show wAugL _ _ _ _ _ _); refine x_augL rfl ?_
  | (with_reducible show wAug _ _ _ _ _); refine x_aug rfl ?_
  | (with_reducible show ∃ k' ds d, Sl.f (D.int _) = Sl.f (D.int k') ∧ _); refine x_augL1 rfl (by decide) rfl ?_
  | (with_reducible show ∃ k' j ds, Sl.f (D.int _) = Sl.f (D.int k') ∧ _ = some (some (Sl.own (O.lst ds))) ∧ ixN _ k' = some j ∧ _); refine x_setL1 rfl rfl ?_; (try dsimp only [List.set_cons_succ, List.set_cons_zero])
  | (with_reducible show ∃ ds j, _ = some (some (Sl.own (O.lst ds))) ∧ ixN _ _ = some j ∧ _); refine x_augL2 rfl rfl ?_; (try dsimp only [List.set_cons_succ, List.set_cons_zero])
  | (with_reducible show gSetL _ _ _ _ _); refine x_setL rfl ?_
  | (with_reducible show dIx (D.lst _) (D.int _) _); refine x_ixL rfl ?_
  | (with_reducible show dIx (D.tup _) (D.int _) _); refine x_ixT rfl ?_
  | with_reducible refine x_cb ?_
  | (with_reducible show wCB1 _ _ _ _); refine x_cb1 rfl rfl ?_
  | with_reducible refine x_fm ?_
  | with_reducible refine x_exl ?_
  | with_reducible refine x_ext ?_
  | with_reducible refine x_exs ?_
  | with_reducible refine x_exi ?_
  | with_reducible refine x_sl ?_
  | with_reducible refine x_slN ?_
  | with_reducible refine x_slS ?_
  | with_reducible refine x_frz ?_
  | with_reducible refine x_frL ?_
  | with_reducible refine x_revT ?_
  | with_reducible refine x_revL ?_
  | with_reducible refine x_splitO ?_
  | (with_reducible show wSlO _ _ _ _ _); refine x_slO rfl ?_
  | (with_reducible show ∃ ds2, _ = some (some (Sl.own (O.lst ds2))) ∧ _); refine x_exOl rfl ?_
  | with_reducible refine x_dictO ?_
  | with_reducible refine x_psC ?_
  | with_reducible refine x_psN ?_
  | with_reducible refine x_get ?_
  | (with_reducible show gSetSl _ _ _ _ _ _); refine x_setSl rfl ?_
  | with_reducible refine x_split ?_
  | with_reducible refine x_isN1 ?_
  | with_reducible refine x_isN0 rfl ?_
  | with_reducible refine x_iZ ?_
  | with_reducible refine x_zT ?_
  | with_reducible refine x_zL ?_
  | with_reducible refine x_stp ?_
  | with_reducible refine x_js ?_
  | with_reducible refine x_jsC ?_
  | with_reducible refine x_jsN ?_
  | with_reducible refine x_fmt ?_
  | with_reducible refine x_callFX ?_
  | (with_reducible refine x_glp ?h ?_); (case h => rfl)
  | with_reducible refine x_raiseR ?_
  | with_reducible refine x_row ?_
  | with_reducible refine x_lenL ?_
  | with_reducible refine x_lenT ?_
  | with_reducible refine x_lenD ?_
  | (with_reducible refine x_lenS ?h ?_); (case h => walk_at "sz")
  | with_reducible refine x_max ?_
  | with_reducible refine x_min ?_
  | with_reducible refine x_intI ?_
  | with_reducible refine x_intB ?_
  | (with_reducible refine x_isInt ?h ?_); (case h => first | assumption | exact part_ty (by assumption) | (intro _ hh; cases hh; done))
  | (with_reducible refine x_isBl ?h ?_); (case h => first | assumption | exact part_ty (by assumption) | (intro _ hh; cases hh; done))
  | (with_reducible refine x_isStr ?h ?_); (case h => first | assumption | exact part_ty (by assumption) | (intro _ hh; cases hh; done))
  | (with_reducible refine x_isTup ?h ?_); (case h => first | assumption | exact part_ty (by assumption) | (intro _ hh; cases hh; done))
  | (with_reducible refine x_isLst ?h ?_); (case h => first | assumption | exact part_ty (by assumption) | (intro _ hh; cases hh; done))
  | (with_reducible refine x_isDic ?h ?_); (case h => first | assumption | exact part_ty (by assumption) | (intro _ hh; cases hh; done))
  | (with_reducible refine x_itTe ?e ?_); (case e => rfl)
  | (with_reducible refine x_itFe ?e ?_); (case e => rfl)
  | with_reducible refine x_dnewO ?_
  | with_reducible refine x_dput ?_
  | with_reducible refine x_dix ?_
  | with_reducible refine x_sortedD ?_
  | with_reducible refine x_star ?_
  | with_reducible refine x_starT ?_
  | with_reducible refine x_frzD ?_
  | with_reducible refine x_sw ?_
  | with_reducible refine x_cnt ?_
  | with_reducible refine x_waC ?_
  | with_reducible refine x_waN ?_
  | with_reducible refine x_lenDD ?_
  | with_reducible refine x_allX ?_
  | (with_reducible show wFz _ _ _ _); refine x_fz rfl ?_
  | (with_reducible show wFzS _ _ _ _); refine x_fzS rfl ?_
  | (with_reducible show wFzO _ _ _ _); refine x_fzO rfl ?_
  | (with_reducible show wiK _ _ _); refine x_iK rfl ?_
  | (with_reducible show wiIt _ _ _); refine x_iIt rfl ?_
  | with_reducible refine x_iE1 ?_
  | with_reducible refine x_forR ?_
  | (with_reducible show wDIxV _ _ _ _); refine x_dixV rfl (cd_dicO _) ?_
  | (with_reducible show wDPop _ _ _ _); refine x_dpop rfl ?_
  | with_reducible refine x_pickO ?_
  | (with_reducible show wExt _ _ _ _); refine x_extO rfl ?_
  | with_reducible refine x_sortedR ?_
  | with_reducible refine x_sortedL ?_
  | with_reducible refine x_ixSt ?_
  | (with_reducible show wiVal _ _ _); refine x_iVal rfl ?_
  | with_reducible refine x_dictP ?_
  | with_reducible refine x_dictZip ?_
  | with_reducible refine x_revS ?_
  | with_reducible refine x_par ?_
  | (with_reducible show wIsiV _ _ _ _ _); refine x_isiV rfl ?_
  | ((with_reducible show _ ∧ _); refine And.intro (Nat.le_of_ble_eq_true rfl) ?_))
local macro_rules | `(tactic| walk_at "x") => `(tactic| repeat (walk_at "x1"))


section
variable {P : Program} {w : World} {K : PySem.W.Frag} {mg : Str → Option Value} {base : Heap} {tabs : List Addr}
/-! ### the pool of a law -/
def wCellAt : WFn := fun ds Q => ∃ (ns : List Int) (k : Int), ds = [.lst (ns.map D.int), .int k] ∧ ns.length ≤ 63 ∧ 0 ≤ k ∧ ∀ c : Int, Q (.f (.int c))
theorem mono__law_cell_at : MonoF wCellAt := fun ds Q Q' i ⟨ns, k, h, h1, h2, q⟩ => ⟨ns, k, h, h1, h2, fun c => i _ (q c)⟩
theorem ok_cell_at (T : Txt K mg) (A : At K mg "_law_cell_at" s__law_cell_at ["script", "k"]) : Cal P w K mg base 1 "_law_cell_at" (spW K tabs (liftF wCellAt)) := by
  refine A.of fun f fd F => fx_fnF F sc__law_cell_at (fun ds Q ⟨ns, k, h, _⟩ => by rw [h]; rfl) fun cdv A outer s H E TT P0 σ0 hcd hr => ⟨_, (gss_cons (gs_if (gt_cmp opx_lt (GE.of_pure (gp_var (pv 1))) (ge_cbB1 cax_len (by rfl) T.z_len (by decide +kernel) (pv 0)) (nomark _))
      (gss_one (gs_ret (GE.of_pure (gp_ix ixx (gp_var (pv 0)) (gp_var (pv 1)) (fun _ _ => rfl)))))
      gss_nil)
      (gss_one (gs_ret (GE.of_pure gp_int)))), fun ds Q ⟨ns, k, h, h1, h2, q⟩ => ?_⟩
  subst h
  refine x_start (e := [some (.f (.lst (ns.map D.int))), some (.f (.int k))]) rfl ?_
  walk_at "x"
  rw [List.length_map]
  refine x_iteD (fun h3 => ?_) (fun h3 => ?_)
  · walk_at "x"
    refine x_ixM h2 (by rw [List.length_map]; omega) fun d hd => ?_
    obtain ⟨c, _, rfl⟩ := List.mem_map.mp hd
    walk_at "x"
    exact q c
  · walk_at "x"
    exact q 0
theorem mono__law_pool : MonoF wUrn := mono__law_urn
theorem ok_pool (T : Txt K mg) (A : At K mg "_law_pool" s__law_pool ["cell", "place"]) : Cal P w K mg base 1 "_law_pool" (spW K tabs (liftF wUrn)) := by
  refine A.of fun f fd F => fx_fnF F sc__law_pool (fun ds Q ⟨c, k, h, _⟩ => by rw [h]; rfl) fun cdv A outer s H E TT P0 σ0 hcd hr => ⟨_, (gss_one (gs_ret (ge_lstOD (gd_cons (ge_cbB (cax_max2 rfl) (by rfl) T.z_max (by decide +kernel) (gd_cons (GE.of_pure (gp_op opx_sub (gp_var (pv 0)) (gp_op opx_pow gp_int gp_int))) (gd_cons (GE.of_pure gp_int) gd_nil))) (gd_cons (GE.of_pure (gp_op opx_mod (gp_op opx_add (gp_op opx_mod (gp_var (pv 0)) gp_int) (gp_op opx_mul gp_int (gp_var (pv 1)))) gp_int)) (gd_cons (GE.of_pure gp_int) gd_nil)))))), fun ds Q ⟨c, k, h, k0, k1, q⟩ => ?_⟩
  subst h
  refine x_start (e := [some (.f (.int c)), some (.f (.int k))]) rfl ?_
  walk_at "x"
  refine q _ ⟨_, _, _, rfl, ?_, Int.le_refl _, Int.le_refl _⟩
  have z : (2147483629 : Nat) < 2 ^ 200 := by decide
  have a := Int.emod_nonneg (c % 2147483629 + 40009 * k) (show (2147483629 : Int) ≠ 0 by decide)
  have b := Int.emod_lt_of_pos (c % 2147483629 + 40009 * k) (show (0 : Int) < 2147483629 by decide)
  omega
theorem mono__law_draw : MonoU2 wLot := mono__law_lot
theorem ok_draw (A : At K mg "_law_draw" s__law_draw ["pool", "many"]) : Cal P w K mg base 1 "_law_draw" (spW K tabs (liftU wLot)) := by
  refine A.of fun f fd F => fx_fnU F sc__law_draw (fun o ds Q ⟨n, m, h, _⟩ => by rw [h]; rfl) fun cdv A outer s H E TT P0 σ0 hcd hr => ⟨_, (gss_cons (gs_asg (GE.of_pure (gp_op opx_add (gp_ix ixx (gp_var (pv 0)) gp_int (fun _ _ => rfl)) gp_int)) (gg_setL (pv 0) (GE.of_pure gp_int)))
      (gss_cons (gs_setE (i := 2) sc__law_draw.nd rfl (Or.inl rfl) (GE.of_pure (gp_op opx_mod (gp_op opx_pow (gp_op opx_add (gp_op opx_add (gp_ix ixx (gp_var (pv 0)) gp_int (fun _ _ => rfl)) (gp_op opx_mul (gp_op opx_mul gp_int (gp_ix ixx (gp_var (pv 0)) gp_int (fun _ _ => rfl))) (gp_ix ixx (gp_var (pv 0)) gp_int (fun _ _ => rfl)))) gp_int) gp_int) gp_int)))
      (gss_cons (gs_asg (GE.of_pure (gp_op opx_mod (gp_op opx_add (gp_op opx_mul (gp_var (pv 2)) gp_int) (gp_op opx_mul gp_int (gp_ix ixx (gp_var (pv 0)) gp_int (fun _ _ => rfl)))) gp_int)) (gg_setL (pv 0) (GE.of_pure gp_int)))
      (gss_cons (gs_setE (i := 3) sc__law_draw.nd rfl (Or.inl rfl) (GE.of_pure (gp_op opx_mod (gp_op opx_div (gp_ix ixx (gp_var (pv 0)) gp_int (fun _ _ => rfl)) gp_int) (gp_var (pv 1)))))
      (gss_cons (gs_if (gt_cmpP opx_gt (gp_ix ixx (gp_var (pv 0)) gp_int (fun _ _ => rfl)) gp_int (nomark _))
      (gss_cons (gs_setE (i := 3) sc__law_draw.nd rfl (Or.inl rfl) (GE.of_pure (gp_op opx_mod (gp_ix ixx (gp_var (pv 0)) gp_int (fun _ _ => rfl)) (gp_var (pv 1)))))
      (gss_one (gs_asg (GE.of_pure (gp_op opx_div (gp_ix ixx (gp_var (pv 0)) gp_int (fun _ _ => rfl)) (gp_var (pv 1)))) (gg_setL (pv 0) (GE.of_pure gp_int)))))
      gss_nil)
      (gss_one (gs_ret (GE.of_pure (gp_var (pv 3)))))))))), fun o ds Q ⟨n, m, h, ⟨a, b, c, ho, hb, hc, hc2⟩, hn, hm, hm2, q⟩ => ?_⟩
  subst h ho
  refine x_start (e := [some (.own (.lst [.int a, .int b, .int c])), some (.f (.int m)), none, none]) rfl ?_
  walk_at "x"
  have hs : (c + 1) * (c + 1) ≤ 100001 * 100001 := Int.mul_le_mul (by omega) (by omega) (by omega) (by decide)
  have hs0 : 0 ≤ (c + 1) * (c + 1) := Int.mul_nonneg (by omega) (by omega)
  refine x_pow (pow_ok (a := 240) ?_ (by decide) (by decide) (by decide)) ?_
  · rw [Int.mul_assoc]
    have e : (2 : Nat) ^ 200 + 7 * (100001 * 100001) + 1 < 2 ^ 240 := by decide
    omega
  walk_at "x"
  generalize (b + 7 * (c + 1) * (c + 1) + 1) ^ Int.toNat 2 % 2147483587 = st
  have z : (2147483629 : Nat) < 2 ^ 200 := by decide
  have b0 := Int.emod_nonneg (st * 69621 + 40692 * (c + 1)) (show (2147483629 : Int) ≠ 0 by decide)
  have b1 := Int.emod_lt_of_pos (st * 69621 + 40692 * (c + 1)) (show (0 : Int) < 2147483629 by decide)
  generalize (st * 69621 + 40692 * (c + 1)) % 2147483629 = b2 at b0 b1
  refine x_iteD (fun ha => ?_) (fun ha => ?_)
  · walk_at "x"
    exact q _ _ (Int.emod_nonneg _ (by omega)) (Int.emod_lt_of_pos _ hm) ⟨_, _, _, rfl, by omega, by omega, by omega⟩
  · walk_at "x"
    exact q _ _ (Int.emod_nonneg _ (by omega)) (Int.emod_lt_of_pos _ hm) ⟨_, _, _, rfl, by omega, by omega, by omega⟩

end
section
variable {P : Program} {w : World} {K : PySem.W.Frag} {mg : Str → Option Value} {base : Heap} {tabs : List Addr}
/-! ### spans, names -/
def wSpanL : WUn := fun o ds Q => ∃ (n : Nat) (way : Int), ds = [.int way] ∧ Un o n ∧ n + 2 ≤ 100000 ∧ ∀ (s u : Int) o', 0 ≤ s → s < u → u ≤ 1000000 → Un o' (n + 2) → Q (.f (.tup [.int s, .int u])) o'
theorem mono__law_span : MonoU2 wSpanL := fun o ds Q Q' i ⟨n, way, h1, h2, h3, q⟩ => ⟨n, way, h1, h2, h3, fun s u o' a b c d => i _ _ (q s u o' a b c d)⟩
theorem ok_lspan (c__law_draw : Cal P w K mg base 1 "_law_draw" (spW K tabs (liftU wLot))) (A : At K mg "_law_span" s__law_span ["pool", "way"]) : Cal P w K mg base 2 "_law_span" (spW K tabs (liftU wSpanL)) := by
  refine A.of fun f fd F => fx_fnU F sc__law_span (fun o ds Q ⟨n, m, h, _⟩ => by rw [h]; rfl) fun cdv A outer s H E TT P0 σ0 hcd hr => ⟨_, (gss_cons (gs_setE (i := 2) sc__law_span.nd rfl (Or.inl rfl) (ge_callU c__law_draw hr (by first | decide | omega) rfl rfl rfl mono__law_draw (pv 0) (gd_cons (GE.of_pure gp_int) gd_nil)))
      (gss_cons (gs_if (gt_cmpP (opx_eq hr.units) (gp_var (pv 1)) gp_int (nomark _))
      (gss_one (gs_ret (ge_tupD (gd_cons (GE.of_pure gp_int) (gd_cons (GE.of_pure gp_int) gd_nil)))))
      gss_nil)
      (gss_cons (gs_if (gt_cmpP (opx_eq hr.units) (gp_var (pv 1)) gp_int (nomark _))
      (gss_one (gs_ret (ge_tupD (gd_cons (GE.of_pure (gp_var (pv 2))) (gd_cons (ge_op opx_add (GE.of_pure (gp_op opx_add (gp_var (pv 2)) gp_int)) (ge_callU c__law_draw hr (by first | decide | omega) rfl rfl rfl mono__law_draw (pv 0) (gd_cons (GE.of_pure gp_int) gd_nil))) gd_nil)))))
      gss_nil)
      (gss_one (gs_ret (ge_tupD (gd_cons (GE.of_pure (gp_op opx_div (gp_var (pv 2)) gp_int)) (gd_cons (ge_op opx_add (GE.of_pure gp_int) (ge_callU c__law_draw hr (by first | decide | omega) rfl rfl rfl mono__law_draw (pv 0) (gd_cons (GE.of_pure gp_int) gd_nil))) gd_nil)))))))), fun o ds Q ⟨n, way, h, u, hn, q⟩ => ?_⟩
  subst h
  refine x_start (e := [some (.own o), some (.f (.int way)), none]) rfl ?_
  walk_at "x"
  intro a o1 a0 a1 u1
  walk_at "x"
  refine x_iteD (fun h1 => ?_) (fun h1 => ?_)
  · walk_at "x"
    exact q _ _ _ (by decide) (by decide) (by decide) (u1.mono (by omega))
  · walk_at "x"
    refine x_iteD (fun h2 => ?_) (fun h2 => ?_)
    · walk_at "x"
      intro b o2 b0 b1 u2
      walk_at "x"
      exact q _ _ _ (by omega) (by omega) (by omega) u2
    · walk_at "x"
      intro b o2 b0 b1 u2
      walk_at "x"
      exact q _ _ _ (by omega) (by omega) (by omega) u2
def wNames : WUn := fun o ds Q => ∃ (n : Nat) (m : Int), ds = [.int m] ∧ Un o n ∧ n + 100 ≤ 100000 ∧ 0 ≤ m ∧ m ≤ 9 ∧ ∀ (xs : List Str) o', (xs.length : Int) = m → (∀ x ∈ xs, nameB (.str x) = true) → xs.Nodup → Un o' (n + 100) → Q (.f (.lst (xs.map D.str))) o'
theorem mono__law_names : MonoU2 wNames := fun o ds Q Q' i ⟨n, m, h1, h2, h3, h4, h5, q⟩ => ⟨n, m, h1, h2, h3, h4, h5, fun xs o' a b c d => i _ _ (q xs o' a b c d)⟩

/-! ### words of small letters -/
def low (a : Str) : Prop := ∀ c ∈ a.cps.toList, 97 ≤ c ∧ c ≤ 122
theorem btw_iff {c : Nat} : btw "a" "z" c = true ↔ 97 ≤ c ∧ c ≤ 122 := by
  unfold btw
  rw [Bool.and_eq_true, show (Str.ofString "a").cps.toList = [97] by decide +kernel, show (Str.ofString "z").cps.toList = [122] by decide +kernel, Bool.not_eq_true', Bool.not_eq_true', decide_eq_false_iff_not, decide_eq_false_iff_not]
  constructor
  · rintro ⟨h1, h2⟩
    refine ⟨?_, ?_⟩
    · by_cases h : c < 97
      · exact absurd (List.Lex.rel h) h1
      · omega
    · by_cases h : 122 < c
      · exact absurd (List.Lex.rel h) h2
      · omega
  · rintro ⟨h1, h2⟩
    refine ⟨fun h => ?_, fun h => ?_⟩
    · cases h with
      | rel h => omega
      | cons h => cases h
    · cases h with
      | rel h => omega
      | cons h => cases h
theorem name_iff {a : Str} : nameB (.str a) = true ↔ 1 ≤ a.length ∧ a.length ≤ 8 ∧ low a := by
  show (decide ((1 : Int) ≤ (a.length : Int)) && (decide ((a.length : Int) ≤ 8) && Fx.nmB "a" "z" a)) = true ↔ _
  unfold Fx.nmB
  rw [Bool.and_eq_true, Bool.and_eq_true, decide_eq_true_iff, decide_eq_true_iff, show a.cps.size = a.cps.toList.length by simp, rng_all, List.all_eq_true]
  constructor
  · rintro ⟨h1, h2, h3⟩
    exact ⟨by omega, by omega, fun c hc => btw_iff.mp (h3 c hc)⟩
  · rintro ⟨h1, h2, h3⟩
    exact ⟨by omega, by omega, fun c hc => btw_iff.mpr (h3 c hc)⟩
theorem low_app {a b : Str} (ha : low a) (hb : low b) : low (a ++ b) := fun c hc => by
  have e : (a ++ b).cps.toList = a.cps.toList ++ b.cps.toList := by
    show (a.cps ++ b.cps).toList = _
    rw [Array.toList_append]
  rw [e] at hc
  rcases List.mem_append.mp hc with h | h
  · exact ha c h
  · exact hb c h
/-- "".join of single small letters -/
theorem low_join : ∀ {ls : List Str}, (∀ x ∈ ls, low x ∧ x.length = 1) → low (Txt.join "" ls) ∧ (Txt.join "" ls).length = ls.length
  | [], _ => ⟨(fun c hc => (List.not_mem_nil (show c ∈ ([] : List Nat) from hc)).elim), by decide +kernel⟩
  | [x], h => by
    obtain ⟨h1, h2⟩ := h x (List.mem_singleton.mpr rfl)
    exact ⟨h1, h2⟩
  | x :: y :: r, h => by
    obtain ⟨i1, i2⟩ := low_join (ls := y :: r) fun z hz => h z (List.mem_cons_of_mem _ hz)
    obtain ⟨h1, h2⟩ := h x (List.mem_cons_self ..)
    have e : Txt.join "" (x :: y :: r) = x ++ Txt.join "" (y :: r) := by
      refine TL.ext_tl ?_
      rw [show Txt.join "" (x :: y :: r) = x ++ "" ++ Txt.join "" (y :: r) from by rw [TL.join_eq, TL.join_eq]; rfl]
      rw [TL.tl_append, TL.tl_append, TL.tl_append]
      show TL.tl x ++ [] ++ _ = _
      rw [List.append_nil]
    rw [e]
    refine ⟨low_app h1 i1, ?_⟩
    rw [TL.len_tl, TL.tl_append, List.length_append, ← TL.len_tl, ← TL.len_tl, h2, i2]
    simp only [List.length_cons]
    omega

/-! ### lists of texts -/
theorem nodup_le {l m : List Str} : l.Nodup → (∀ x ∈ l, x ∈ m) → l.length ≤ m.length := by
  induction l generalizing m with
  | nil => intros; exact Nat.zero_le _
  | cons x l ih =>
    intro nd h
    obtain ⟨hx, nd⟩ := List.nodup_cons.mp nd
    have hm := h x (List.mem_cons_self ..)
    have i := ih (m := m.erase x) nd fun y hy => (List.mem_erase_of_ne (fun e => hx (by rw [← e]; exact hy))).mpr (h y (List.mem_cons_of_mem _ hy))
    rw [List.length_erase_of_mem hm] at i
    have := List.length_pos_of_mem hm
    rw [List.length_cons]
    omega
theorem met_mem {key : Nat → Str} : ∀ (i : Nat) (x : Str), x ∈ SS.met key i → ∃ j, j < i ∧ x = key j
  | 0, x, h => by cases h
  | i + 1, x, h => by
    unfold SS.met at h
    split at h
    · obtain ⟨j, h1, h2⟩ := met_mem i x h
      exact ⟨j, by omega, h2⟩
    · rcases List.mem_append.mp h with h | h
      · obtain ⟨j, h1, h2⟩ := met_mem i x h
        exact ⟨j, by omega, h2⟩
      · exact ⟨i, by omega, List.mem_singleton.mp h⟩
theorem met_nodup {key : Nat → Str} : ∀ i : Nat, (SS.met key i).Nodup
  | 0 => List.nodup_nil
  | i + 1 => by
    unfold SS.met
    split
    · exact met_nodup i
    · rename_i h
      refine List.nodup_append.mpr ⟨met_nodup i, List.pairwise_singleton _ _, fun a ha b hb e => h ?_⟩
      rw [List.mem_singleton.mp hb] at e
      subst e
      exact List.any_eq_true.mpr ⟨_, ha, beq_self_eq_true _⟩
theorem dst_le {xs ys : List Str} (h : ∀ x ∈ xs, x ∈ ys) : dst xs ≤ ys.length := by
  refine nodup_le (met_nodup _) fun x hx => ?_
  obtain ⟨j, h1, rfl⟩ := met_mem _ x hx
  refine h _ ?_
  rw [List.getD_eq_getElem?_getD, List.getElem?_eq_getElem h1]
  exact List.getElem_mem h1
def lets : List Str := (Str.ofString "abcdefghijklmnopqrstuvwxyz").cps.toList.map fun c => ⟨#[c]⟩
theorem lets_nodup : lets.Nodup := by decide +kernel
theorem lets_name : ∀ x ∈ lets, nameB (.str x) = true := by decide +kernel
theorem pick {xs : List Str} (hl : xs.length ≤ 9) (w : Str) (hw : nameB (.str w) = true) : ∃ y r, (w :: lets).filter (fun y => !xs.contains y) = y :: r ∧ y ∉ xs ∧ nameB (.str y) = true := by
  cases e : (w :: lets).filter (fun y => !xs.contains y) with
  | nil =>
    have h := nodup_le (m := xs) lets_nodup fun x hx => by
      by_cases hc : x ∈ xs
      · exact hc
      · have : x ∈ (w :: lets).filter (fun y => !xs.contains y) := List.mem_filter.mpr ⟨List.mem_cons_of_mem _ hx, by simpa using hc⟩
        rw [e] at this
        cases this
    have l : lets.length = 26 := by decide +kernel
    omega
  | cons y r =>
    refine ⟨y, r, rfl, ?_⟩
    have : y ∈ (w :: lets).filter (fun y => !xs.contains y) := by rw [e]; exact List.mem_cons_self ..
    obtain ⟨h1, h2⟩ := List.mem_filter.mp this
    refine ⟨by simpa using h2, ?_⟩
    rcases List.mem_cons.mp h1 with rfl | h1
    · exact hw
    · exact lets_name y h1
theorem eqB_nil {xs : List Str} : eqB (.lst (xs.map D.str)) (.lst []) = xs.isEmpty := by
  show PyData.eqv (.list (D.pyL (xs.map D.str))) (.list (D.pyL [])) = _
  cases xs with
  | nil => unfold PyData.eqv; first | rfl | decide +kernel | (unfold PyData.eqvAll; rfl)
  | cons x xs => unfold PyData.eqv; first | rfl | (unfold PyData.eqvAll; rfl)
theorem at_last {α : Type} {ds : List α} (h : 1 ≤ ds.length) : ∃ d, L2.atI ds (-1) = some d ∧ d ∈ ds := by
  have e : L2.ixN ds.length (-1) = some (ds.length - 1) := by
    unfold L2.ixN
    simp
    omega
  refine ⟨ds[ds.length - 1], ?_, List.getElem_mem _⟩
  unfold L2.atI
  rw [e]
  exact List.getElem?_eq_getElem (by omega)
theorem signs_lets : Fx.signs (Str.ofString "abcdefghijklmnopqrstuvwxyz") = lets.map D.str := by
  unfold Fx.signs lets
  rw [List.map_map]
  rfl
theorem at_map {xs : List Str} {j : Nat} {d : D} (h : (xs.map D.str)[j]? = some d) : ∃ y, xs[j]? = some y ∧ d = .str y := by
  rw [List.getElem?_map] at h
  cases e : xs[j]? with
  | none => rw [e] at h; cases h
  | some y => rw [e] at h; cases h; exact ⟨y, rfl, rfl⟩
theorem sum_ones : ∀ {ls : List Str}, (∀ x ∈ ls, x.length = 1) → (ls.map (·.length)).sum = ls.length
  | [], _ => rfl
  | x :: ls, h => by
    rw [List.map_cons, List.sum_cons, h x (List.mem_cons_self ..), sum_ones fun y hy => h y (List.mem_cons_of_mem _ hy), List.length_cons]
    omega

/-! ### parts of texts, of lists -/
theorem cut_to {ds : List D} {k : Int} (h0 : 0 ≤ k) (h1 : k ≤ (ds.length : Int)) : Fx.cutD ds none (some k) = ds.take k.toNat := by
  unfold Fx.cutD HT.sIx
  dsimp only
  rw [if_neg (by omega), List.drop_zero, Nat.sub_zero, Nat.min_eq_left (by omega)]
theorem cut_from {ds : List D} {k : Int} (h0 : 0 ≤ k) (h1 : k ≤ (ds.length : Int)) : Fx.cutD ds (some k) none = ds.drop k.toNat := by
  unfold Fx.cutD HT.sIx
  dsimp only
  rw [if_neg (by omega), Nat.min_eq_left (by omega)]
  exact List.take_of_length_le (by rw [List.length_drop]; exact Nat.le_refl _)
theorem name_cut {a : Str} (h1 : 1 ≤ a.length) (ha : low a) : nameB (.str (cutS a none (some 8))) = true := by
  have e2 : (cutS a none (some 8)).cps.toList = a.cps.toList.take 8 := by
    unfold cutS HT.sIx
    have : a.length = a.cps.toList.length := TL.len_tl a
    simp only [this]
    rw [show (8 : Int).toNat = 8 from rfl]
    simp
  have l1 : a.length = a.cps.toList.length := TL.len_tl a
  have l2 : (cutS a none (some 8)).length = (cutS a none (some 8)).cps.toList.length := TL.len_tl _
  rw [e2, List.length_take] at l2
  refine name_iff.mpr ⟨by omega, by omega, fun c hc => ?_⟩
  rw [e2] at hc
  exact ha c (List.mem_of_mem_take hc)
/-! ### what can be laid, how deep -/
def Fit (n : Nat) (d : D) : Prop := PyData.canLay0 d.py = true ∧ PyData.depth d.py ≤ n
theorem fitL {n : Nat} {ds : List D} (h : ∀ x ∈ ds, Fit n x) : PyData.canLayAll0 (D.pyL ds) = true ∧ PyData.depthAll (D.pyL ds) ≤ n := by
  induction ds with
  | nil => exact ⟨by show PyData.canLayAll0 [] = true; unfold PyData.canLayAll0; rfl, by show PyData.depthAll [] ≤ n; unfold PyData.depthAll; exact Nat.zero_le _⟩
  | cons d ds ih =>
    obtain ⟨i1, i2⟩ := ih fun c hc => h c (List.mem_cons_of_mem _ hc)
    obtain ⟨h1, h2⟩ := h d (List.mem_cons_self ..)
    refine ⟨?_, ?_⟩
    · show PyData.canLayAll0 (d.py :: D.pyL ds) = true
      unfold PyData.canLayAll0
      rw [h1, i1]
      rfl
    · show PyData.depthAll (d.py :: D.pyL ds) ≤ n
      unfold PyData.depthAll
      omega
theorem fit_tup {n : Nat} {ds : List D} (h : ∀ x ∈ ds, Fit n x) : Fit (n + 1) (.tup ds) := by
  obtain ⟨h1, h2⟩ := fitL h
  refine ⟨?_, ?_⟩
  · show PyData.canLay0 (.tuple (D.pyL ds)) = true
    unfold PyData.canLay0
    exact h1
  · show PyData.depth (.tuple (D.pyL ds)) ≤ n + 1
    unfold PyData.depth
    omega
theorem fit_lst {n : Nat} {ds : List D} (h : ∀ x ∈ ds, Fit n x) : Fit (n + 1) (.lst ds) := by
  obtain ⟨h1, h2⟩ := fitL h
  refine ⟨?_, ?_⟩
  · show PyData.canLay0 (.list (D.pyL ds)) = true
    unfold PyData.canLay0
    exact h1
  · show PyData.depth (.list (D.pyL ds)) ≤ n + 1
    unfold PyData.depth
    omega
theorem fit_str {n : Nat} {a : Str} (h : PyData.strOk a = true) : Fit n (.str a) := by
  refine ⟨?_, ?_⟩
  · show PyData.canLay0 (.str a) = true
    unfold PyData.canLay0
    exact h
  · show PyData.depth (.str a) ≤ n
    unfold PyData.depth
    exact Nat.zero_le _
theorem fit_int {n : Nat} {i : Int} : Fit n (.int i) := ⟨rfl, Nat.zero_le _⟩
theorem Fit.ok {n : Nat} {d : D} (h : Fit n d) (l : n ≤ 64) : okPy d = true := by
  unfold okPy SeqAt.shaped
  rw [h.1, decide_eq_true (Nat.le_trans h.2 l)]
  rfl
theorem Fit.prt {n : Nat} {d : D} (h : Fit n d) (l : n ≤ 64) (z : szB d = true) : part d = true := by
  unfold part
  rw [h.ok l, z]
  rfl
theorem sz_small {a : Str} (h : a.length ≤ 4096) : szB (.str a) = true := decide_eq_true (Nat.le_trans h (Nat.le_of_ble_eq_true rfl))
/-! ### rows, sound -/
theorem name_len {a : Str} (h : nameB (.str a) = true) : a.length ≤ 8 := (name_iff.mp h).2.1
theorem ok_names (T : Txt K mg) (c__law_draw : Cal P w K mg base 1 "_law_draw" (spW K tabs (liftU wLot))) (A : At K mg "_law_names" s__law_names ["pool", "many"]) : Cal P w K mg base 2 "_law_names" (spW K tabs (liftU wNames)) := by
  refine A.of fun f fd F => fx_fnU F sc__law_names (fun o ds Q ⟨n, m, h, _⟩ => by rw [h]; rfl) fun cdv A outer s H E TT P0 σ0 hcd hr => ⟨_, (gss_cons (gs_setE (i := 2) sc__law_names.nd rfl (Or.inr rfl) (GE.of_pure gp_str))
      (gss_cons (gs_setE (i := 3) sc__law_names.nd rfl (Or.inr rfl) (ge_lstOD gd_nil))
      (gss_cons (gs_for PassesOwn.never rfl (gi_r1 rfl T.z_range (GD.ga (gd_cons (GE.of_pure (gp_var (pv 1))) gd_nil))) (gg_name (pg_name (i := 4) sc__law_names.nd rfl (Or.inl rfl)) rfl)
      (gss_cons (gs_setE (i := 5) sc__law_names.nd rfl (Or.inl rfl) (ge_join (GE.of_pure gp_str) (ge_lcR (own := [("j", 6)]) (t := .name 6) rfl sc__law_names.nd (gi_r1 rfl T.z_range (GD.ga (gd_cons (ge_op opx_add (GE.of_pure gp_int) (ge_callU c__law_draw hr (by first | decide | omega) rfl rfl rfl mono__law_draw (pv 0) (gd_cons (GE.of_pure gp_int) gd_nil))) gd_nil))) (blkOk_by (own := [("j", 6)]) (N := ["pool", "many", "letters", "names", "k", "word", "j", "one", "letter"]) (sc := defScope s__law_names) (by decide +kernel)) (fun _ _ _ _ _ => (pg_name (i := 6) sc__law_names.nd rfl (Or.inl rfl))) (fun _ _ _ _ _ => (ge_ix ixx (GE.of_pure (gp_var (pv 2))) (ge_callU c__law_draw hr (by first | decide | omega) rfl rfl rfl mono__law_draw (pv 0) (gd_cons (GE.of_pure gp_int) gd_nil)) (fun _ _ => rfl))) (by decide) (mem1 rfl) (mem1 (Nat.le_of_ble_eq_true rfl)))))
      (gss_cut (gs_if (GW.gt (gw_and (gt_cmpV (opx_ne hr.units) (pv 3) (ge_lstD gd_nil) (nomark _)) (gw_and1 (gt_cmp (opx_eq hr.units) (ge_callU c__law_draw hr (by first | decide | omega) rfl rfl rfl mono__law_draw (pv 0) (gd_cons (GE.of_pure gp_int) gd_nil)) (GE.of_pure gp_int) (nomark _)))))
      (gss_one (gs_setE (i := 5) sc__law_names.nd rfl (Or.inl rfl) (ge_sl (ge_op opx_add (ge_ixV ixx (pv 3) (ge_un unx_neg (GE.of_pure gp_int)) (fun _ _ => rfl)) (GE.of_pure (gp_var (pv 5)))) go_none (go_some (GE.of_pure gp_int)))))
      gss_nil)
      (gss_one (gs_append (pv 3) (gd_cons (ge_ix ixx (ge_frz (ge_lcR1 (own := [("one", 7)]) (t := .name 7) rfl sc__law_names.nd (gi_list (ge_op opx_add (ge_lstD (gd_cons (GE.of_pure (gp_var (pv 5))) gd_nil)) (ge_frz (ge_lcR (own := [("letter", 8)]) (t := .name 8) rfl sc__law_names.nd (gi_str (GE.of_pure (gp_var (pv 2)))) (blkOk_by (own := [("letter", 8)]) (N := ["pool", "many", "letters", "names", "k", "word", "j", "one", "letter"]) (sc := defScope s__law_names) (by decide +kernel)) (fun _ _ _ _ _ => (pg_name (i := 8) sc__law_names.nd rfl (Or.inl rfl))) (fun _ _ _ _ _ => (GE.of_pure (gp_var (pv 8)))) (by decide) (mem1 rfl) (mem1 (Nat.le_of_ble_eq_true rfl)))))) (blkOk_by (own := [("one", 7)]) (N := ["pool", "many", "letters", "names", "k", "word", "j", "one", "letter"]) (sc := defScope s__law_names) (by decide +kernel)) (fun _ _ _ _ _ => (pg_name (i := 7) sc__law_names.nd rfl (Or.inl rfl))) (fun _ _ _ _ _ => (gt_cmpP (opx_nin hr.u65) (gp_var (pv 7)) (gp_var (pv 3)) (by rfl))) (fun _ _ _ _ _ => (GE.of_pure (gp_var (pv 7)))) (by decide) (mem1 rfl) (mem1 (Nat.le_of_ble_eq_true rfl)))) (GE.of_pure gp_int) (fun _ _ => rfl)) gd_nil))))))
      (gss_one (gs_ret (ge_move (pv 3))))))), fun o ds Q ⟨n, m, h, u, hn, m0, m9, q⟩ => ?_⟩
  subst h
  refine x_start (e := [some (.own o), some (.f (.int m)), none, none, none, none, none, none, none]) rfl ?_
  walk_at "x"
  refine ⟨fun i e => ∃ (o' : O) (xs : List Str) (x4 x5 x6 x7 x8 : Option Sl), Un o' (n + 10 * i) ∧ xs.length = i ∧ (∀ x ∈ xs, nameB (.str x) = true) ∧ xs.Nodup ∧ e = [some (.own o'), some (.f (.int m)), some (.f (.str "abcdefghijklmnopqrstuvwxyz")), some (.own (.lst (xs.map D.str))), x4, x5, x6, x7, x8], ⟨o, [], _, _, _, _, _, u, rfl, nofun, List.nodup_nil, rfl⟩, ?_, ?_⟩
  · rintro i d e hd ⟨o1, xs, x4, x5, x6, x7, x8, u1, hlen, hx, nd, rfl⟩
    obtain ⟨hi, rfl⟩ := rng_at hd
    walk_at "x"
    intro k1 o2 k10 k11 u2
    walk_at "x"
    rw [List.length_map, List.length_range]
    refine ⟨by omega, fun j acc e => ∃ (o3 : O) (ls : List Str) (y6 : Option Sl), Un o3 (n + 10 * i + 1 + j) ∧ acc = ls.map D.str ∧ ls.length = j ∧ (∀ x ∈ ls, low x ∧ x.length = 1) ∧ e = [some (.own o3), some (.f (.int m)), some (.f (.str "abcdefghijklmnopqrstuvwxyz")), some (.own (.lst (xs.map D.str))), some (.f (.int (i : Nat))), x5, y6, x7, x8], ⟨o2, [], x6, u2, rfl, rfl, nofun, rfl⟩, ?_, ?_⟩
    · rintro j d acc e hd ⟨o3, ls, y6, u3, rfl, hll, hlo, rfl⟩
      obtain ⟨hj, rfl⟩ := rng_at hd
      refine ⟨_, rfl, ?_⟩
      dsimp only [List.map_cons, List.map_nil, wipeE, setE, Tgt.js, List.set_cons_zero, List.set_cons_succ]
      walk_at "x"
      intro c o4 c0 c1 u4
      walk_at "x"
      obtain ⟨ch, e1, e2⟩ := atI_at (ds := (Str.ofString "abcdefghijklmnopqrstuvwxyz").cps.toList) c0 (by rw [show (Str.ofString "abcdefghijklmnopqrstuvwxyz").cps.toList.length = 26 by decide +kernel]; exact c1)
      have hch := (by decide +kernel : ∀ c ∈ (Str.ofString "abcdefghijklmnopqrstuvwxyz").cps.toList, 97 ≤ c ∧ c ≤ 122) ch (List.mem_of_getElem? e2)
      refine x_ixS (by decide +kernel) e1 ?_
      refine ⟨_, rfl, o4, ls ++ [⟨#[ch]⟩], _, u4.mono (by omega), by rw [List.map_append]; rfl, by rw [List.length_append, hll]; rfl, fun x hx => ?_, rfl⟩
      rcases List.mem_append.mp hx with h | h
      · exact hlo x h
      · rw [List.mem_singleton.mp h]
        exact ⟨fun c hc => by
          have hc : c ∈ [ch] := hc
          rw [List.mem_singleton.mp hc]
          exact hch, rfl⟩
    rintro acc e ⟨o3, ls, y6, u3, rfl, hll, hlo, rfl⟩
    obtain ⟨wl, wn⟩ := low_join hlo
    have hsum : (ls.map (·.length)).sum + ls.length * (Str.ofString "").length ≤ 16777216 := by
      rw [sum_ones fun x hx => (hlo x hx).2, show (Str.ofString "").length = 0 by decide +kernel]
      omega
    refine ⟨_, ls, .inl rfl, rfl, hsum, ?_⟩
    generalize Txt.join "" ls = word at wl wn
    walk_at "x"
    have sxs : ∀ x ∈ xs, PyData.strOk x = true := fun x h => name_cp (hx x h)
    have wname : nameB (.str word) = true := name_iff.mpr ⟨by omega, by omega, wl⟩
    refine x_cut (fun e => ∃ (w2 : Str) (o4 : O), Un o4 (n + 10 * i + 10) ∧ nameB (.str w2) = true ∧ e = [some (.own o4), some (.f (.int m)), some (.f (.str "abcdefghijklmnopqrstuvwxyz")), some (.own (.lst (xs.map D.str))), some (.f (.int (i : Nat))), some (.f (.str w2)), none, x7, x8]) ?_ ?_
    · walk_at "x"
      refine ⟨_, _, _, rfl, rfl, rfl, x_neD (okPy_strs sxs) (by decide +kernel) ?_⟩
      walk_at "x"
      rw [eqB_nil]
      cases hxs : xs with
      | nil =>
        rw [List.isEmpty_nil, if_pos rfl, if_neg Bool.false_ne_true]
        exact ⟨word, o3, u3.mono (by omega), wname, rfl⟩
      | cons x0 xr =>
        rw [List.isEmpty_cons, if_neg Bool.false_ne_true, ← hxs]
        walk_at "x"
        intro z1 o5 z10 z11 u5
        walk_at "x"
        refine x_iteD (fun hz => ?_) (fun hz => ?_)
        · walk_at "x"
          obtain ⟨z, e1, e2⟩ := at_last (ds := xs.map D.str) (by rw [hxs, List.length_map]; exact Nat.succ_le_succ (Nat.zero_le _))
          obtain ⟨z, hz2, rfl⟩ := List.mem_map.mp e2
          have nz := hx z hz2
          obtain ⟨z1, z8, zl⟩ := name_iff.mp nz
          obtain ⟨w1, w8, _⟩ := name_iff.mp wname
          refine ⟨_, _, _, rfl, rfl, rfl, x_ixL e1 ?_⟩
          walk_at "x"
          have el : (z ++ word).length = z.length + word.length := by rw [TL.len_tl, TL.tl_append, List.length_append, ← TL.len_tl, ← TL.len_tl]
          have sm : z.length + word.length ≤ sizeLine := Nat.le_trans (show z.length + word.length ≤ 16 by omega) (Nat.le_of_ble_eq_true rfl)
          refine x_addS sm ?_
          walk_at "x"
          refine ⟨by rw [el]; exact sm, nofun, Nat.le_of_ble_eq_true rfl, _, o5, u5.mono (by omega), name_cut (by omega) (low_app zl wl), rfl⟩
        · walk_at "x"
          exact ⟨word, o5, u5.mono (by omega), wname, rfl⟩
    rintro e ⟨w2, o4, u4, hw2, rfl⟩
    walk_at "x"
    rw [signs_lets]
    refine ⟨fun j acc e => acc = (lets.take j).map D.str ∧ ∃ z8, e = [some (.own o4), some (.f (.int m)), some (.f (.str "abcdefghijklmnopqrstuvwxyz")), some (.own (.lst (xs.map D.str))), some (.f (.int (i : Nat))), some (.f (.str w2)), none, x7, z8], ⟨rfl, _, rfl⟩, ?_, ?_⟩
    · rintro j d acc e hd ⟨rfl, z8, rfl⟩
      obtain ⟨y, hy, rfl⟩ := at_map hd
      refine ⟨_, rfl, ?_⟩
      dsimp only [List.map_cons, List.map_nil, wipeE, setE, Tgt.js, List.set_cons_zero, List.set_cons_succ]
      walk_at "x"
      exact ⟨by rw [take_snoc hy, List.map_append]; rfl, _, rfl⟩
    rintro acc e ⟨rfl, z8, rfl⟩
    rw [List.length_map, List.take_length]
    walk_at "x"
    refine ⟨fun j acc e => acc = (((w2 :: lets).take j).filter fun y => !xs.contains y).map D.str ∧ ∃ z7, e = [some (.own o4), some (.f (.int m)), some (.f (.str "abcdefghijklmnopqrstuvwxyz")), some (.own (.lst (xs.map D.str))), some (.f (.int (i : Nat))), some (.f (.str w2)), none, z7, none], ⟨rfl, _, rfl⟩, ?_, ?_⟩
    · rintro j d acc e hd ⟨rfl, z7, rfl⟩
      have hd : ((w2 :: lets).map D.str)[j]? = some d := hd
      obtain ⟨y, hy, rfl⟩ := at_map hd
      refine ⟨_, rfl, ?_⟩
      dsimp only [List.map_cons, List.map_nil, wipeE, setE, Tgt.js, List.set_cons_zero, List.set_cons_succ]
      walk_at "x"
      have oky : PyData.strOk y = true := name_cp (by
        rcases List.mem_cons.mp (List.mem_of_getElem? hy) with rfl | h
        · exact hw2
        · exact lets_name y h)
      refine ⟨okPy_str oky, okPy_strs sxs, ?_⟩
      have e : (if true = true then !(D.pyL (xs.map D.str)).any fun z => z.eqv (D.str y).py else (D.pyL (xs.map D.str)).any fun z => z.eqv (D.str y).py) = !xs.contains y := by
        rw [if_pos rfl, ← mem_strs]
        rfl
      rw [e]
      refine ⟨_, rfl, ?_⟩
      cases hc : xs.contains y with
      | true =>
        rw [Bool.not_true, if_neg Bool.false_ne_true]
        exact ⟨by rw [take_snoc hy, List.filter_append, List.filter_cons_of_neg (by rw [hc]; decide), List.filter_nil, List.append_nil], _, rfl⟩
      | false =>
        rw [Bool.not_false, if_pos rfl]
        walk_at "x"
        exact ⟨by rw [take_snoc hy, List.filter_append, List.filter_cons_of_pos (by rw [hc]; rfl), List.filter_nil, List.map_append]; rfl, _, rfl⟩
    rintro acc e ⟨rfl, z7, rfl⟩
    rw [show ([D.str w2] ++ lets.map D.str).length = (w2 :: lets).length by rw [List.length_append, List.length_map, List.length_cons]; exact Nat.add_comm 1 _, List.take_length]
    obtain ⟨y, r, hp, yn, yb⟩ := pick (xs := xs) (by omega) w2 hw2
    rw [hp]
    walk_at "x"
    refine x_ixL (d := .str y) (L2.atI_nat (xs := (y :: r).map D.str) (j := 0) rfl) ?_
    walk_at "x"
    refine x_appE rfl (by rw [List.length_map]; omega) ?_
    walk_at "x"
    refine ⟨o4, xs ++ [y], _, _, _, _, _, u4.mono (by omega), by rw [List.length_append, hlen]; rfl, fun x h => ?_, List.nodup_append.mpr ⟨nd, List.pairwise_singleton _ _, fun a ha b hb e => ?_⟩, by rw [List.map_append]; rfl⟩
    · rcases List.mem_append.mp h with h | h
      · exact hx x h
      · rw [List.mem_singleton.mp h]
        exact yb
    · rw [List.mem_singleton.mp hb] at e
      exact yn (e ▸ ha)
  · rintro e ⟨o1, xs, x4, x5, x6, x7, x8, u1, hlen, hx, nd, rfl⟩
    rw [List.length_map, List.length_range] at hlen u1
    walk_at "x"
    refine ⟨_, _, rfl, rfl, nofun, Nat.le_of_ble_eq_true rfl, o1, rfl, ?_⟩
    exact q xs o1 (by omega) hx nd (u1.mono (by omega))

end
section
variable {P : Program} {w : World} {K : PySem.W.Frag} {mg : Str → Option Value} {base : Heap} {tabs : List Addr}
/-! ### trusts, rows -/
structure Ti where
  (a b : Str) (s u : Int)
def Ti.d (t : Ti) : D := .tup [.str t.a, .str t.b, .int t.s, .int t.u]
structure Ti.Ok (t : Ti) : Prop where
  a : nameB (.str t.a) = true
  b : nameB (.str t.b) = true
  ab : t.a ≠ t.b
  s0 : 0 ≤ t.s
  su : t.s < t.u
  u1 : t.u ≤ 1000000
structure Wi where
  (a : Str) (p : D) (s u : Int)
def Wi.d (x : Wi) : D := .tup [.str x.a, x.p, .int x.s, .int x.u]
structure Wi.Ok (x : Wi) : Prop where
  a : nameB (.str x.a) = true
  p : x.p ∈ allDeeds
  s0 : 0 ≤ x.s
  su : x.s < x.u
  u1 : x.u ≤ 1000000
def trustD (oo : Str) (ts : List Ti) (xs : List Wi) : D := .tup [.str oo, .tup (ts.map Ti.d), .tup (xs.map Wi.d)]
structure TrOk (oo : Str) (ts : List Ti) (xs : List Wi) : Prop where
  hoo : nameB (.str oo) = true
  hts : ∀ t ∈ ts, t.Ok
  tl : ts.length ≤ 20
  hxs : ∀ x ∈ xs, x.Ok
  x1 : 1 ≤ xs.length
  x6 : xs.length ≤ 6
  nd : (xs.map (·.a)).Nodup
  no : ∀ x ∈ xs, x.a ≠ oo
/-- a row of the right kinds -/
structure Rw where
  (g h : Str) (p : D) (s u k : Int)
def Rw.d (r : Rw) : D := .tup [.str r.g, .str r.h, r.p, .int r.s, .int r.u, .int r.k]
def deeds4 : List D := [.tup [.str "look"], .tup [.str "set"], .tup [.str "look", .str "set"], .tup [.str "set", .str "look"]]
structure Rw.W (r : Rw) : Prop where
  g : PyData.strOk r.g = true
  gl : r.g.length ≤ 100
  h : PyData.strOk r.h = true
  hl : r.h.length ≤ 100
  p : r.p ∈ deeds4
def deedsL : D → List D
  | .tup ds => ds
  | _ => []
theorem deeds4_tup : ∀ {d : D}, d ∈ deeds4 → d = .tup (deedsL d) ∧ (∀ x ∈ deedsL d, okPy x = true) ∧ okPy (.tup (deedsL d)) = true ∧ (deedsL d).length ≤ 2 ∧ szB d = true := by
  intro d h
  rcases List.mem_cons.mp h with rfl | h
  · exact ⟨rfl, (by decide +kernel : ∀ x ∈ [D.str "look"], okPy x = true), (by decide +kernel : okPy (.tup [.str "look"]) = true), by decide, rfl⟩
  rcases List.mem_cons.mp h with rfl | h
  · exact ⟨rfl, (by decide +kernel : ∀ x ∈ [D.str "set"], okPy x = true), (by decide +kernel : okPy (.tup [.str "set"]) = true), by decide, rfl⟩
  rcases List.mem_cons.mp h with rfl | h
  · exact ⟨rfl, (by decide +kernel : ∀ x ∈ [D.str "look", D.str "set"], okPy x = true), (by decide +kernel : okPy (.tup [.str "look", .str "set"]) = true), by decide, rfl⟩
  obtain rfl := List.mem_singleton.mp h
  exact ⟨rfl, (by decide +kernel : ∀ x ∈ [D.str "set", D.str "look"], okPy x = true), (by decide +kernel : okPy (.tup [.str "set", .str "look"]) = true), by decide, rfl⟩
theorem deeds_four {d : D} (h : d ∈ allDeeds) : d ∈ deeds4 := by
  rcases List.mem_cons.mp h with rfl | h
  · exact List.mem_cons_self ..
  rcases List.mem_cons.mp h with rfl | h
  · exact List.mem_cons_of_mem _ (List.mem_cons_self ..)
  rw [List.mem_singleton.mp h]
  exact List.mem_cons_of_mem _ (List.mem_cons_of_mem _ (List.mem_cons_self ..))
theorem x_any {bs : List Bool} {Q : D → Prop} (h : Q (.bl (bs.any id))) : cAny [.lst (bs.map D.bl)] Q := ⟨bs, rfl, h⟩
def wMade : WFn := fun ds Q => ∃ r : Rw, ds = [r.d] ∧ Q (.f (.tup [.int 0, .str "room", r.p, .str r.g, .str r.h, .int r.s, .int r.u, .int r.k, .non]))
theorem mono__made_leave : MonoF wMade := fun ds Q Q' i ⟨r, e, q⟩ => ⟨r, e, i _ q⟩
/-- such as a leave is -/
def formB (r : Rw) : Bool := deedsB r.p && (nameB (.str r.g) && (nameB (.str r.h) && (!(r.g == r.h) && (spanB (.int r.s) (.int r.u) && betwB (.int r.k) 0 6))))
def wPlanned : WFn := fun ds Q => ∃ r : Rw, ds = [r.d] ∧ r.W ∧ Q (.f (.bl (formB r)))
theorem mono__is_planned : MonoF wPlanned := fun ds Q Q' i ⟨d, h, n, q⟩ => ⟨d, h, n, i _ q⟩
theorem part_str {a : Str} (h : PyData.strOk a = true) (l : a.length ≤ 100) : part (.str a) = true := (fit_str (n := 0) h).prt (by decide) (sz_small (Nat.le_trans l (by decide)))
/-! ### ties, givers, wishes -/
def hitT (r : Rw) (t : Ti) : Bool := (t.a == r.g) && (t.b == r.h)
def inT (r : Rw) (t : Ti) : Bool := decide (t.s ≤ r.s) && decide (r.u ≤ t.u)
def tieV (ts : List Ti) (r : Rw) : Bool := (ts.filter (hitT r)).any (inT r)
theorem pair_ok {x y : Str} (h : PyData.strOk x = true) (g : PyData.strOk y = true) : okPy (.tup [.str x, .str y]) = true := by
  simp [okPy, SeqAt.shaped, D.py, D.pyL, PyData.canLay0, PyData.canLayAll0, PyData.depth, PyData.depthAll, h, g]
theorem eqB_pair {x y o a : Str} : eqB (.tup [.str x, .str y]) (.tup [.str o, .str a]) = ((x == o) && (y == a)) := by
  show PyData.eqv (.tuple [.str x, .str y]) (.tuple [.str o, .str a]) = _
  simp [PyData.eqv, PyData.eqvAll]
def wHasTie : WFn := fun ds Q => ∃ (oo : Str) (ts : List Ti) (xs : List Wi) (r : Rw), ds = [trustD oo ts xs, r.d] ∧ TrOk oo ts xs ∧ r.W ∧ Q (.f (.bl (tieV ts r)))
theorem mono__has_tie : MonoF wHasTie := fun ds Q Q' i ⟨oo, ts, xs, r, h1, h2, h3, q⟩ => ⟨oo, ts, xs, r, h1, h2, h3, i _ q⟩
/-! ### which leaves lie within which -/
def wLies : WFn := fun ds Q => ∃ (n : D) (r : Str) (dd : List D) (g : D) (h : D) (s u p : Int) (v : D) (n' : D) (r' : Str) (ee : List D) (g' : D) (h' : Str) (s' u' p' : Int) (v' : D) (gs : Str),
  ds = [.tup [n, .str r, .tup dd, g, h, .int s, .int u, .int p, v], .tup [n', .str r', .tup ee, g', .str h', .int s', .int u', .int p', v']] ∧ g = .str gs ∧ PyData.strOk r = true ∧ PyData.strOk r' = true ∧ PyData.strOk gs = true ∧ PyData.strOk h' = true ∧ (∀ d ∈ dd, okPy d = true) ∧ okPy (.tup ee) = true ∧
  Q (.f (.bl (eqB (.str r') (.str r) && (dd.all (memB ee) && (decide (s' ≤ s) && (decide (u ≤ u') && (decide (p < p') && eqB (.str h') (.str gs))))))))
theorem mono_lies_within : MonoF wLies := fun ds Q Q' i ⟨n, r, dd, g, h, s, u, p, v, n', r', ee, g', h', s', u', p', v', gs, a1, a2, a3, a4, a5, a6, a7, a8, q⟩ => ⟨n, r, dd, g, h, s, u, p, v, n', r', ee, g', h', s', u', p', v', gs, a1, a2, a3, a4, a5, a6, a7, a8, i _ q⟩

end
section
variable {P : Program} {w : World} {K : PySem.W.Frag} {mg : Str → Option Value} {base : Heap} {tabs : List Addr}
/-! ### trusts, made -/
def TieIn (ns : List Str) (t : D) : Prop := ∃ (a b : Str) (s u : Int), t = .tup [.str a, .str b, .int s, .int u] ∧ a ∈ ns ∧ b ∈ ns ∧ a ≠ b ∧ 0 ≤ s ∧ s < u ∧ u ≤ 1000000
def WishIn (ns : List Str) (t : D) : Prop := ∃ (a : Str) (p : D) (s u : Int), t = .tup [.str a, p, .int s, .int u] ∧ a ∈ ns ∧ p ∈ allDeeds ∧ 0 ≤ s ∧ s < u ∧ u ≤ 1000000
theorem span_ok {s u : Int} (h0 : 0 ≤ s) (h1 : s < u) (h2 : u ≤ 1000000) : spanB (.int s) (.int u) = true := by
  have e1 : betwB (.int s) 0 1000000 = true := by show (decide (0 ≤ s) && decide (s ≤ 1000000)) = true; rw [decide_eq_true h0, decide_eq_true (by omega)]; rfl
  have e2 : betwB (.int u) 0 1000000 = true := by show (decide (0 ≤ u) && decide (u ≤ 1000000)) = true; rw [decide_eq_true (by omega), decide_eq_true h2]; rfl
  have e3 : ltB (.int s) (.int u) = true := decide_eq_true h1
  unfold spanB
  rw [e1, e2, e3]
  rfl
section
variable {ns : List Str} {t : D} {o : Str}
end
theorem pop_perm {l : List Str} {i : Nat} {y : Str} (h : l[i]? = some y) : (y :: l.eraseIdx i).Perm l := by
  obtain ⟨hi, rfl⟩ := List.getElem?_eq_some_iff.mp h
  rw [List.eraseIdx_eq_take_drop_succ]
  refine List.perm_middle.symm.trans ?_
  rw [← List.drop_eq_getElem_cons hi, List.take_append_drop]
theorem wi_of {ns : List Str} (hn : ∀ x ∈ ns, nameB (.str x) = true) : ∀ {ws : List D}, (∀ t ∈ ws, WishIn ns t) → ∃ xs : List Wi, ws = xs.map Wi.d ∧ ∀ x ∈ xs, x.Ok ∧ x.a ∈ ns
  | [], _ => ⟨[], rfl, nofun⟩
  | t :: ws, h => by
    obtain ⟨xs, e, ok⟩ := wi_of hn fun t ht => h t (List.mem_cons_of_mem _ ht)
    obtain ⟨a, p, s, u, et, ha, hp, h0, h1, h2⟩ := h t (List.mem_cons_self ..)
    exact ⟨⟨a, p, s, u⟩ :: xs, by rw [et, e]; rfl, List.forall_mem_cons.mpr ⟨⟨⟨hn a ha, hp, h0, h1, h2⟩, ha⟩, ok⟩⟩
theorem ti_of {ns : List Str} (hn : ∀ x ∈ ns, nameB (.str x) = true) : ∀ {ts : List D}, (∀ t ∈ ts, TieIn ns t) → ∃ tis : List Ti, ts = tis.map Ti.d ∧ ∀ t ∈ tis, t.Ok ∧ t.a ∈ ns ∧ t.b ∈ ns
  | [], _ => ⟨[], rfl, nofun⟩
  | t :: ts, h => by
    obtain ⟨tis, e, ok⟩ := ti_of hn fun t ht => h t (List.mem_cons_of_mem _ ht)
    obtain ⟨a, b, s, u, et, ha, hb, ne, h0, h1, h2⟩ := h t (List.mem_cons_self ..)
    exact ⟨⟨a, b, s, u⟩ :: tis, by rw [et, e]; rfl, List.forall_mem_cons.mpr ⟨⟨⟨hn a ha, hn b hb, ne, h0, h1, h2⟩, ha, hb⟩, ok⟩⟩
theorem wi_names (xs : List Wi) : (xs.map Wi.d).map nm0 = xs.map (·.a) := by rw [List.map_map]; rfl
/-- names that a trust's names are among -/
def Among (ns : List Str) (ts : List Ti) (xs : List Wi) : Prop := (∀ t ∈ ts, t.a ∈ ns ∧ t.b ∈ ns) ∧ ∀ x ∈ xs, x.a ∈ ns
def wTrustG : WUn := fun o ds Q => ∃ (n : Nat) (m : Int), ds = [.int m] ∧ Un o n ∧ n + 1000 ≤ 100000 ∧ 1 ≤ m ∧ m ≤ 6 ∧ ∀ (oo : Str) (ts : List Ti) (xs : List Wi) (ns : List Str) o', TrOk oo ts xs → Among (oo :: ns) ts xs → ns.length ≤ 6 → ns.Nodup → oo ∉ ns → Un o' (n + 1000) → Q (.f (trustD oo ts xs)) o'
theorem mono__law_trust : MonoU2 wTrustG := fun o ds Q Q' i ⟨n, m, h1, h2, h3, h4, h5, q⟩ => ⟨n, m, h1, h2, h3, h4, h5, fun oo ts xs ns o' a b c d e f => i _ _ (q oo ts xs ns o' a b c d e f)⟩
theorem rngA_at {a : Int} {k i : Nat} {d : D} (h : ((List.range k).map fun j : Nat => D.int (a + (j : Int)))[i]? = some d) : i < k ∧ d = .int (a + (i : Int)) := by
  rw [List.getElem?_map] at h
  have hi : i < k := by
    rcases Nat.lt_or_ge i k with z | z
    · exact z
    · rw [List.getElem?_eq_none (by rw [List.length_range]; exact z)] at h
      cases h
  rw [List.getElem?_eq_getElem (by rw [List.length_range]; exact hi), List.getElem_range] at h
  cases h
  exact ⟨hi, rfl⟩
theorem ix_name {ns : List Str} {k : Int} {QD : D → Prop} (h0 : 0 ≤ k) (h1 : k < (ns.length : Int)) (h : ∀ y, ns[k.toNat]? = some y → QD (.str y)) : dIx (.lst (ns.map D.str)) (.int k) QD := by
  obtain ⟨d, e1, e2⟩ := atI_at (ds := ns.map D.str) h0 (by rw [List.length_map]; exact h1)
  obtain ⟨y, e3, rfl⟩ := at_map e2
  exact x_ixL e1 (h y e3)
theorem nodup_ne {ns : List Str} (nd : ns.Nodup) {i j : Nat} {a b : Str} (hi : ns[i]? = some a) (hj : ns[j]? = some b) (ne : i ≠ j) : a ≠ b := by
  obtain ⟨h1, rfl⟩ := List.getElem?_eq_some_iff.mp hi
  obtain ⟨h2, rfl⟩ := List.getElem?_eq_some_iff.mp hj
  rcases Nat.lt_or_gt_of_ne ne with l | l
  · exact List.pairwise_iff_getElem.mp nd i j h1 h2 l
  · exact (List.pairwise_iff_getElem.mp nd j i h2 h1 l).symm
theorem way_is {a b c : Int} {d : D} (h : d ∈ [D.int 0, .int a, .int b, .int c]) : ∃ w : Int, d = .int w := by
  rcases List.mem_cons.mp h with rfl | h
  · exact ⟨_, rfl⟩
  rcases List.mem_cons.mp h with rfl | h
  · exact ⟨_, rfl⟩
  rcases List.mem_cons.mp h with rfl | h
  · exact ⟨_, rfl⟩
  exact ⟨_, List.mem_singleton.mp h⟩
theorem tie_snoc {ns ts : List _} {t : D} (h : ∀ t ∈ ts, TieIn ns t) (g : TieIn ns t) : ∀ x ∈ ts ++ [t], TieIn ns x := fun x hx => by
  rcases List.mem_append.mp hx with hx | hx
  · exact h x hx
  · rw [List.mem_singleton.mp hx]
    exact g
theorem wish_snoc {ns ts : List _} {t : D} (h : ∀ t ∈ ts, WishIn ns t) (g : WishIn ns t) : ∀ x ∈ ts ++ [t], WishIn ns x := fun x hx => by
  rcases List.mem_append.mp hx with hx | hx
  · exact h x hx
  · rw [List.mem_singleton.mp hx]
    exact g
theorem turn_ne {a c n : Int} (a0 : 0 ≤ a) (a1 : a < n) (c0 : 0 ≤ c) (c1 : c < n - 1) : ((a + 1 + c) % n).toNat ≠ a.toNat := by
  by_cases h : a + 1 + c < n
  · rw [Int.emod_eq_of_lt (by omega) h]
    omega
  · have e : (a + 1 + c) % n = a + 1 + c - n := by
      have e1 : (a + 1 + c - n + n) % n = (a + 1 + c - n) % n := by simp
      rw [Int.emod_eq_of_lt (b := n) (a := a + 1 + c - n) (by omega) (by omega)] at e1
      rw [← e1]
      congr 1
      omega
    rw [e]
    omega
theorem erase_strs (l : List Str) (i : Nat) : (l.map D.str).eraseIdx i = (l.eraseIdx i).map D.str := by
  rw [List.eraseIdx_eq_take_drop_succ, List.eraseIdx_eq_take_drop_succ, List.map_append, List.map_take, List.map_drop]
theorem ok_trustg (T : Txt K mg) (c__law_draw : Cal P w K mg base 1 "_law_draw" (spW K tabs (liftU wLot))) (c__law_names : Cal P w K mg base 2 "_law_names" (spW K tabs (liftU wNames))) (c__law_span : Cal P w K mg base 2 "_law_span" (spW K tabs (liftU wSpanL)))
    (A : At K mg "_law_trust" s__law_trust ["pool", "most"]) : Cal P w K mg base 3 "_law_trust" (spW K tabs (liftU wTrustG)) := by
  refine A.of fun f fd F => fx_fnU F sc__law_trust (fun o ds Q ⟨n, m, h, _⟩ => by rw [h]; rfl) fun cdv A outer s H E TT P0 σ0 hcd hr => ⟨_, (gss_cons (gs_setE (i := 2) sc__law_trust.nd rfl (Or.inl rfl) (ge_callU c__law_names hr (by first | decide | omega) rfl rfl rfl mono__law_names (pv 0) (gd_cons (ge_op opx_add (GE.of_pure gp_int) (ge_callU c__law_draw hr (by first | decide | omega) rfl rfl rfl mono__law_draw (pv 0) (gd_cons (GE.of_pure (gp_var (pv 1))) gd_nil))) gd_nil)))
      (gss_cons (gs_setE (i := 3) sc__law_trust.nd rfl (Or.inl rfl) (ge_callU c__law_draw hr (by first | decide | omega) rfl rfl rfl mono__law_draw (pv 0) (gd_cons (GE.of_pure gp_int) gd_nil)))
      (gss_cons (gs_setE (i := 4) sc__law_trust.nd rfl (Or.inl rfl) (ge_lstOD gd_nil))
      (gss_cons (gs_for PassesOwn.never rfl (gi_r2 rfl T.z_range (GD.ga (gd_cons (GE.of_pure gp_int) (gd_cons (ge_cbB1 cax_len (by rfl) T.z_len (by decide +kernel) (pv 2)) gd_nil)))) (gg_name (pg_name (i := 5) sc__law_trust.nd rfl (Or.inl rfl)) rfl)
      (gss_one (gs_if (gt_cmp opx_gt (ge_callU c__law_draw hr (by first | decide | omega) rfl rfl rfl mono__law_draw (pv 0) (gd_cons (GE.of_pure gp_int) gd_nil)) (GE.of_pure gp_int) (nomark _))
      (gss_one (gs_append (pv 4) (gd_cons (ge_op opx_add (ge_tupD (gd_cons (ge_ix ixx (GE.of_pure (gp_var (pv 2))) (ge_callU c__law_draw hr (by first | decide | omega) rfl rfl rfl mono__law_draw (pv 0) (gd_cons (GE.of_pure (gp_var (pv 5))) gd_nil)) (fun _ _ => rfl)) (gd_cons (GE.of_pure (gp_ix ixx (gp_var (pv 2)) (gp_var (pv 5)) (fun _ _ => rfl))) gd_nil))) (ge_callU c__law_span hr (by first | decide | omega) rfl rfl rfl mono__law_span (pv 0) (gd_cons (ge_ix ixx (ge_lstD (gd_cons (GE.of_pure gp_int) (gd_cons (GE.of_pure gp_int) (gd_cons (GE.of_pure gp_int) (gd_cons (GE.of_pure (gp_op opx_mod (gp_var (pv 5)) gp_int)) gd_nil))))) (GE.of_pure (gp_var (pv 3))) (fun _ _ => rfl)) gd_nil))) gd_nil)))
      gss_nil)))
      (gss_cons (gs_for PassesOwn.never rfl (gi_r1 rfl T.z_range (GD.ga (gd_cons (ge_callU c__law_draw hr (by first | decide | omega) rfl rfl rfl mono__law_draw (pv 0) (gd_cons (ge_op opx_sub (GE.of_pure gp_int) (ge_cbB1 cax_len (by rfl) T.z_len (by decide +kernel) (pv 4))) gd_nil)) gd_nil))) (gg_name (pg_name (i := 5) sc__law_trust.nd rfl (Or.inl rfl)) rfl)
      (gss_cons (gs_setE (i := 6) sc__law_trust.nd rfl (Or.inl rfl) (ge_callU c__law_draw hr (by first | decide | omega) rfl rfl rfl mono__law_draw (pv 0) (gd_cons (ge_cbB1 cax_len (by rfl) T.z_len (by decide +kernel) (pv 2)) gd_nil)))
      (gss_cons (gs_setE (i := 7) sc__law_trust.nd rfl (Or.inl rfl) (ge_op opx_mod (ge_op opx_add (GE.of_pure (gp_op opx_add (gp_var (pv 6)) gp_int)) (ge_callU c__law_draw hr (by first | decide | omega) rfl rfl rfl mono__law_draw (pv 0) (gd_cons (ge_op opx_sub (ge_cbB1 cax_len (by rfl) T.z_len (by decide +kernel) (pv 2)) (GE.of_pure gp_int)) gd_nil))) (ge_cbB1 cax_len (by rfl) T.z_len (by decide +kernel) (pv 2))))
      (gss_one (gs_append (pv 4) (gd_cons (ge_op opx_add (ge_tupD (gd_cons (GE.of_pure (gp_ix ixx (gp_var (pv 2)) (gp_var (pv 6)) (fun _ _ => rfl))) (gd_cons (GE.of_pure (gp_ix ixx (gp_var (pv 2)) (gp_var (pv 7)) (fun _ _ => rfl))) gd_nil))) (ge_callU c__law_span hr (by first | decide | omega) rfl rfl rfl mono__law_span (pv 0) (gd_cons (ge_ix ixx (ge_lstD (gd_cons (GE.of_pure gp_int) (gd_cons (GE.of_pure gp_int) (gd_cons (GE.of_pure gp_int) (gd_cons (GE.of_pure (gp_op opx_mod (gp_var (pv 5)) gp_int)) gd_nil))))) (GE.of_pure (gp_var (pv 3))) (fun _ _ => rfl)) gd_nil))) gd_nil))))))
      (gss_cons (gs_setE (i := 8) sc__law_trust.nd rfl (Or.inl rfl) (ge_slN (GE.of_pure (gp_var (pv 2))) (go_some (GE.of_pure gp_int)) go_none))
      (gss_cons (gs_setE (i := 9) sc__law_trust.nd rfl (Or.inl rfl) (ge_lstOD gd_nil))
      (gss_cons (gs_for PassesOwn.never rfl (gi_r1 rfl T.z_range (GD.ga (gd_cons (ge_op opx_add (GE.of_pure gp_int) (ge_callU c__law_draw hr (by first | decide | omega) rfl rfl rfl mono__law_draw (pv 0) (gd_cons (ge_cbB (cax_min2 rfl) (by rfl) T.z_min (by decide +kernel) (gd_cons (GE.of_pure gp_int) (gd_cons (ge_cbB1 cax_len (by rfl) T.z_len (by decide +kernel) (pv 8)) gd_nil))) gd_nil))) gd_nil))) (gg_name (pg_name (i := 5) sc__law_trust.nd rfl (Or.inl rfl)) rfl)
      (gss_cons (gs_setE (i := 10) sc__law_trust.nd rfl (Or.inl rfl) (ge_popD (pv 8) (gd_cons (ge_callU c__law_draw hr (by first | decide | omega) rfl rfl rfl mono__law_draw (pv 0) (gd_cons (ge_cbB1 cax_len (by rfl) T.z_len (by decide +kernel) (pv 8)) gd_nil)) gd_nil)))
      (gss_cons (gs_setE (i := 11) sc__law_trust.nd rfl (Or.inl rfl) (ge_callU c__law_draw hr (by first | decide | omega) rfl rfl rfl mono__law_draw (pv 0) (gd_cons (GE.of_pure gp_int) gd_nil)))
      (gss_cons (gs_setE (i := 12) sc__law_trust.nd rfl (Or.inl rfl) (ge_ix ixx (ge_lstD (gd_cons (ge_tupD (gd_cons (GE.of_pure gp_str) gd_nil)) (gd_cons (ge_tupD (gd_cons (GE.of_pure gp_str) gd_nil)) (gd_cons (ge_tupD (gd_cons (GE.of_pure gp_str) (gd_cons (GE.of_pure gp_str) gd_nil))) gd_nil)))) (ge_callU c__law_draw hr (by first | decide | omega) rfl rfl rfl mono__law_draw (pv 0) (gd_cons (GE.of_pure gp_int) gd_nil)) (fun _ _ => rfl)))
      (gss_one (gs_append (pv 9) (gd_cons (ge_tupD (gd_cons (GE.of_pure (gp_var (pv 10))) (gd_cons (GE.of_pure (gp_var (pv 12))) (gd_cons (GE.of_pure (gp_var (pv 11))) (gd_cons (ge_op opx_add (GE.of_pure (gp_op opx_add (gp_var (pv 11)) gp_int)) (ge_callU c__law_draw hr (by first | decide | omega) rfl rfl rfl mono__law_draw (pv 0) (gd_cons (GE.of_pure gp_int) gd_nil))) gd_nil))))) gd_nil)))))))
      (gss_one (gs_ret (ge_tupD (gd_cons (GE.of_pure (gp_ix ixx (gp_var (pv 2)) gp_int (fun _ _ => rfl))) (gd_cons (ge_cbT1 cax_tuple (by rfl) T.z_tuple (by decide +kernel) (pv 4)) (gd_cons (ge_cbT1 cax_tuple (by rfl) T.z_tuple (by decide +kernel) (pv 9)) gd_nil)))))))))))))), fun o ds Q ⟨n, m, h, u, hn, m1, m5, q⟩ => ?_⟩
  subst h
  refine x_start (e := [some (.own o), some (.f (.int m)), none, none, none, none, none, none, none, none, none, none, none]) rfl ?_
  walk_at "x"
  intro d1 o1 d10 d11 u1
  walk_at "x"
  refine ⟨_, _, rfl, u1, by omega, by omega, by omega, fun ns o2 hl hb nd u2 => ?_⟩
  walk_at "x"
  intro kind o3 k0 k1 u3
  walk_at "x"
  rw [List.length_map]
  refine ⟨_, _, rfl, ⟨by omega, by omega, by omega, by omega⟩, fun i e => ∃ (o' : O) (ts : List D) (x5 : Option Sl), Un o' (n + 102 + 4 * i) ∧ ts.length ≤ i ∧ (∀ t ∈ ts, TieIn ns t) ∧ e = [some (.own o'), some (.f (.int m)), some (.f (.lst (ns.map D.str))), some (.f (.int kind)), some (.own (.lst ts)), x5, none, none, none, none, none, none, none], ⟨o3, [], none, u3, Nat.le_refl _, nofun, rfl⟩, ?_, ?_⟩
  · rintro i d e hd ⟨o4, ts, x5, u4, htl, ht, rfl⟩
    obtain ⟨hi, rfl⟩ := rngA_at hd
    walk_at "x"
    intro c o5 c0 c1 u5
    walk_at "x"
    refine x_iteD (fun hc => ?_) (fun hc => ?_)
    · walk_at "x"
      intro c2 o6 c20 c21 u6
      walk_at "x"
      refine ix_name c20 (by omega) fun a ha => ?_
      walk_at "x"
      refine ix_name (by omega) (by omega) fun b hb2 => ?_
      walk_at "x"
      refine x_ixM k0 (by simpa using k1) fun dw hw => ?_
      obtain ⟨way, rfl⟩ := way_is hw
      walk_at "x"
      refine ⟨_, way, rfl, u6, by omega, fun s v o7 s0 sv vl u7 => ?_⟩
      walk_at "x"
      refine x_appE rfl (by omega) ?_
      refine ⟨o7, ts ++ [.tup [.str a, .str b, .int s, .int v]], _, u7.mono (by omega), by rw [List.length_append]; exact Nat.succ_le_succ htl, tie_snoc ht ⟨a, b, s, v, rfl, List.mem_of_getElem? ha, List.mem_of_getElem? hb2, nodup_ne nd ha hb2 (by omega), s0, sv, vl⟩, rfl⟩
    · walk_at "x"
      exact ⟨o5, ts, _, u5.mono (by omega), by omega, ht, rfl⟩
  rintro e ⟨o4, ts, x5, u4, htl, ht, rfl⟩
  rw [List.length_map, List.length_range] at htl u4
  walk_at "x"
  intro r o5 r0 r1 u5
  walk_at "x"
  refine ⟨fun i e => ∃ (o' : O) (ts' : List D) (x5 x6 x7 : Option Sl), Un o' (n + 150 + 4 * i) ∧ ts'.length ≤ ts.length + i ∧ (∀ t ∈ ts', TieIn ns t) ∧ e = [some (.own o'), some (.f (.int m)), some (.f (.lst (ns.map D.str))), some (.f (.int kind)), some (.own (.lst ts')), x5, x6, x7, none, none, none, none, none], ⟨o5, ts, _, _, _, u5.mono (by omega), Nat.le_refl _, ht, rfl⟩, ?_, ?_⟩
  · rintro i d e hd ⟨o6, ts', x5, x6, x7, u6, htl', ht', rfl⟩
    obtain ⟨hi, rfl⟩ := rng_at hd
    walk_at "x"
    rw [List.length_map]
    walk_at "x"
    intro one o7 n0 n1 u7
    walk_at "x"
    rw [List.length_map]
    walk_at "x"
    intro c o8 c0 c1 u8
    walk_at "x"
    rw [List.length_map]
    walk_at "x"
    refine ix_name n0 n1 fun a ha => ?_
    walk_at "x"
    refine ix_name (Int.emod_nonneg _ (by omega)) (Int.emod_lt_of_pos _ (by omega)) fun b hb2 => ?_
    walk_at "x"
    refine x_ixM k0 (by simpa using k1) fun dw hw => ?_
    obtain ⟨way, rfl⟩ := way_is hw
    walk_at "x"
    refine ⟨_, way, rfl, u8, by omega, fun s v o9 s0 sv vl u9 => ?_⟩
    walk_at "x"
    refine x_appE rfl (by omega) ?_
    refine ⟨o9, ts' ++ [.tup [.str a, .str b, .int s, .int v]], _, _, _, u9.mono (by omega), by rw [List.length_append]; exact Nat.succ_le_succ htl', tie_snoc ht' ⟨a, b, s, v, rfl, List.mem_of_getElem? ha, List.mem_of_getElem? hb2, nodup_ne nd ha hb2 (turn_ne n0 n1 c0 c1).symm, s0, sv, vl⟩, rfl⟩
  rintro e ⟨o6, ts', x5, x6, x7, u6, htl', ht', rfl⟩
  rw [List.length_map, List.length_range] at u6 htl'
  walk_at "x"
  obtain ⟨oo, nr, rfl⟩ : ∃ oo nr, ns = oo :: nr := by
    cases ns with
    | nil => exact absurd hl (by rw [List.length_nil]; omega)
    | cons a b => exact ⟨a, b, rfl⟩
  rw [List.length_cons] at hl
  rw [show Fx.cutD ((oo :: nr).map D.str) (some 1) none = nr.map D.str from cut_from (by decide) (by rw [List.length_map, List.length_cons]; omega), List.length_map]
  obtain ⟨mm, hmm, mm0, mm1, mm2⟩ : ∃ mm : Int, (if ((nr.length : Nat) : Int) < 6 then ((nr.length : Nat) : Int) else 6) = mm ∧ 0 < mm ∧ mm ≤ 6 ∧ mm ≤ nr.length := by
    refine ⟨_, rfl, ?_, ?_, ?_⟩ <;> split <;> omega
  rw [hmm]
  clear hmm
  walk_at "x"
  intro r2 o7 r20 r21 u7
  walk_at "x"
  refine ⟨fun i e => ∃ (o' : O) (left : List Str) (ws : List D) (x5 x10 x11 x12 : Option Sl), Un o' (n + 300 + 4 * i) ∧ (ws.map nm0 ++ left).Perm nr ∧ left.length + i = nr.length ∧ ws.length = i ∧ (∀ t ∈ ws, WishIn (oo :: nr) t) ∧ e = [some (.own o'), some (.f (.int m)), some (.f (.lst ((oo :: nr).map D.str))), some (.f (.int kind)), some (.own (.lst ts')), x5, x6, x7, some (.own (.lst (left.map D.str))), some (.own (.lst ws)), x10, x11, x12], ⟨o7, nr, [], _, _, _, _, u7.mono (by omega), .refl _, rfl, rfl, nofun, rfl⟩, ?_, ?_⟩
  · rintro i d e hd ⟨o8, left, ws, x5, x10, x11, x12, u8, pm, hll, hwl, hw, rfl⟩
    obtain ⟨hi, rfl⟩ := rng_at hd
    walk_at "x"
    rw [List.length_map]
    walk_at "x"
    intro c o9 c0 c1 u9
    walk_at "x"
    have hc : c.toNat < left.length := by omega
    have ha : left[c.toNat]? = some left[c.toNat] := List.getElem?_eq_getElem hc
    generalize left[c.toNat] = a at ha
    have pa := pop_perm ha
    have am : a ∈ nr := pm.mem_iff.mp (List.mem_append_right _ (List.mem_of_getElem? ha))
    refine ⟨c, left.map D.str, .str a, rfl, rfl, c0, by rw [List.length_map]; omega, by rw [List.getElem?_map, ha]; rfl, ?_⟩
    rw [erase_strs]
    walk_at "x"
    intro s o10 s0 s1 u10
    walk_at "x"
    intro dp o11 p0 p1 u11
    walk_at "x"
    refine x_ixM p0 p1 fun p hp => ?_
    have hp : p ∈ allDeeds := hp
    walk_at "x"
    intro g o12 g0 g1 u12
    walk_at "x"
    refine x_appE rfl (by omega) ?_
    refine ⟨o12, left.eraseIdx c.toNat, ws ++ [.tup [.str a, p, .int s, .int (s + 1 + g)]], _, _, _, _, u12.mono (by omega), ?_, ?_, by rw [List.length_append, hwl]; rfl, wish_snoc hw ⟨a, p, s, _, rfl, List.mem_cons_of_mem _ am, hp, s0, by omega, by omega⟩, rfl⟩
    · rw [List.map_append, List.append_assoc]
      exact (List.Perm.append_left _ pa).trans pm
    · rw [List.length_eraseIdx_of_lt hc]
      omega
  rintro e ⟨o8, left, ws, x5, x10, x11, x12, u8, pm, hll, hwl, hw, rfl⟩
  rw [List.length_map, List.length_range] at u8 hll hwl
  walk_at "x"
  refine x_ixL (d := .str oo) (L2.atI_nat (xs := (oo :: nr).map D.str) (j := 0) rfl) ?_
  walk_at "x"
  have wn := (pm.nodup_iff.mpr (List.nodup_cons.mp nd).2)
  obtain ⟨ys, rfl, yok⟩ := wi_of hb hw
  obtain ⟨tis, rfl, tok⟩ := ti_of hb ht'
  rw [wi_names] at wn pm
  rw [List.length_map] at hwl htl'
  have nd2 := List.nodup_cons.mp nd
  refine q oo tis ys nr o8 ⟨hb oo (List.mem_cons_self ..), fun t h => (tok t h).1, by omega, fun x h => (yok x h).1, by omega, by omega, (List.nodup_append.mp wn).1, fun x hx e => nd2.1 (pm.mem_iff.mp (List.mem_append_left _ (List.mem_map.mpr ⟨x, hx, e⟩)))⟩ ⟨fun t h => (tok t h).2, fun x h => (yok x h).2⟩ (by omega) nd2.2 nd2.1 (u8.mono (by omega))

end
section
variable {P : Program} {w : World} {K : PySem.W.Frag} {mg : Str → Option Value} {base : Heap} {tabs : List Addr}
/-! ### plans -/
theorem rising_pw : ∀ (l : List Str) (p : Str), risingS p l = true → (p :: l).Pairwise (fun a b : Str => a.cps.toList ≤ b.cps.toList)
  | [], p, _ => List.pairwise_singleton _ _
  | x :: r, p, h => by
    have h : (!ltCps x.cps.toList p.cps.toList && risingS x r) = true := h
    rw [Bool.and_eq_true, Bool.not_eq_true', ltCps_eq, decide_eq_false_iff_not, List.not_lt] at h
    have ih := rising_pw r x h.2
    refine List.Pairwise.cons (fun b hb => ?_) ih
    rcases List.mem_cons.mp hb with rfl | hb
    · exact h.1
    · exact List.le_trans h.1 ((List.pairwise_cons.mp ih).1 b hb)
theorem sorted_uniq {ys zs : List Str} (h1 : sortedS ys = true) (h2 : sortedS zs = true) (p : ys.Perm zs) : ys = zs := by
  have pw : ∀ l : List Str, sortedS l = true → l.Pairwise (fun a b : Str => a.cps.toList ≤ b.cps.toList) := fun l h => by
    cases l with
    | nil => exact .nil
    | cons x r => exact rising_pw r x h
  exact List.Perm.eq_of_pairwise (fun a b _ _ x y => TL.ext_tl (List.le_antisymm x y)) (pw _ h1) (pw _ h2) p
theorem perm_of_mem {ys zs : List Str} (h1 : ys.Nodup) (h2 : zs.Nodup) (h : ∀ y, y ∈ ys ↔ y ∈ zs) : ys.Perm zs := (List.perm_ext_iff_of_nodup h1 h2).mpr h
theorem eqB_lstr : ∀ xs ys : List Str, eqB (.lst (xs.map D.str)) (.lst (ys.map D.str)) = (xs == ys) := by
  intro xs ys
  show PyData.eqvAll (D.pyL (xs.map D.str)) (D.pyL (ys.map D.str)) = _
  induction xs generalizing ys with
  | nil =>
    cases ys with
    | nil => show PyData.eqvAll [] [] = true; unfold PyData.eqvAll; rfl
    | cons y ys => show PyData.eqvAll [] (PyData.str y :: D.pyL (ys.map D.str)) = false; unfold PyData.eqvAll; rfl
  | cons x xs ih =>
    cases ys with
    | nil => show PyData.eqvAll (PyData.str x :: D.pyL (xs.map D.str)) [] = false; unfold PyData.eqvAll; rfl
    | cons y ys =>
      show PyData.eqvAll (PyData.str x :: D.pyL (xs.map D.str)) (PyData.str y :: D.pyL (ys.map D.str)) = ((x == y) && (xs == ys))
      unfold PyData.eqvAll
      rw [ih]
      simp [PyData.eqv]
abbrev Case := List (Str × Str)
def cP (cs : Case) : List (Key × D) := cs.map fun p => (.inr p.1, .str p.2)
def cD (cs : Case) : D := dicD (cP cs)
def look (cs : Case) (x : Str) : Option Str := cs.lookup x
theorem getP_case (cs : Case) (x : Str) : getP (cP cs) (.inr x) = (look cs x).map D.str := by
  induction cs with
  | nil => rfl
  | cons p cs ih =>
    obtain ⟨a, b⟩ := p
    show getP ((.inr a, .str b) :: cP cs) (.inr x) = (List.lookup x ((a, b) :: cs)).map D.str
    rw [List.lookup_cons]
    unfold getP at ih ⊢
    by_cases h : x = a
    · subst h
      rw [beq_self_eq_true, List.find?_cons_of_pos (by simp)]
      rfl
    · rw [beq_false_of_ne h, List.find?_cons_of_neg (by simpa using fun e => h e.symm)]
      exact ih
theorem look_mem {cs : Case} {x g : Str} (h : look cs x = some g) : (x, g) ∈ cs := PySem.mem_of_lookup h
theorem look_of {cs : Case} (nd : (cs.map (·.1)).Nodup) {x g : Str} (h : (x, g) ∈ cs) : look cs x = some g := by
  induction cs with
  | nil => cases h
  | cons p cs ih =>
    obtain ⟨a, b⟩ := p
    have nd2 := List.nodup_cons.mp nd
    unfold look
    rw [List.lookup_cons]
    rcases List.mem_cons.mp h with e | h
    · cases e
      rw [beq_self_eq_true]
    · rw [beq_false_of_ne (fun e => nd2.1 (List.mem_map.mpr ⟨_, h, e⟩))]
      exact ih nd2.2 h

/-! ### who settles whom, ways -/
structure CsOk (cs : Case) : Prop where
  nd : (cs.map (·.1)).Nodup
  a : ∀ p ∈ cs, nameB (.str p.1) = true
  b : ∀ p ∈ cs, nameB (.str p.2) = true
  len : cs.length ≤ 6
def goes (cs : Case) : Nat → Str → Option Str
  | 0, x => some x
  | n + 1, x => (goes cs n x).bind (look cs)
theorem goes_add {cs : Case} {i : Nat} {x : Str} : ∀ k, goes cs (i + k) x = (goes cs i x).bind (goes cs k)
  | 0 => by
    show goes cs i x = _
    cases goes cs i x <;> rfl
  | k + 1 => by
    show (goes cs (i + k) x).bind (look cs) = _
    rw [goes_add k]
    cases goes cs i x <;> rfl
theorem goes_one {cs : Case} {n : Nat} {x : Str} : goes cs (n + 1) x = (look cs x).bind (goes cs n) := by
  have := goes_add (cs := cs) (i := 1) (x := x) n
  rw [Nat.add_comm] at this
  exact this
theorem goes_pre {cs : Case} {i n : Nat} {x y : Str} (h : goes cs n x = some y) (l : i ≤ n) : ∃ z, goes cs i x = some z := by
  have := goes_add (cs := cs) (i := i) (x := x) (n - i)
  rw [Nat.add_sub_cancel' l, h] at this
  cases e : goes cs i x with
  | none => rw [e] at this; cases this
  | some z => exact ⟨z, rfl⟩
def Reach (cs : Case) (x y : Str) : Prop := ∃ n, goes cs n x = some y
theorem look_key {cs : Case} {x g : Str} (h : look cs x = some g) : x ∈ cs.map (·.1) := List.mem_map.mpr ⟨_, look_mem h, rfl⟩
theorem key_look {cs : Case} (nd : (cs.map (·.1)).Nodup) {x : Str} (h : x ∈ cs.map (·.1)) : ∃ g, look cs x = some g := by
  obtain ⟨p, hp, rfl⟩ := List.mem_map.mp h
  exact ⟨p.2, look_of nd hp⟩
theorem least_of {p : Nat → Prop} {n : Nat} (h : p n) : ∃ m, m ≤ n ∧ p m ∧ ∀ k, k < m → ¬ p k := by
  induction n using Nat.strongRecOn with
  | ind n ih =>
    by_cases e : ∃ k, k < n ∧ p k
    · obtain ⟨k, l, pk⟩ := e
      obtain ⟨m, h1, h2, h3⟩ := ih k l pk
      exact ⟨m, by omega, h2, h3⟩
    · exact ⟨n, Nat.le_refl _, h, fun k l pk => e ⟨k, l, pk⟩⟩
theorem nodup_of_inj {l : List Str} (h : ∀ i j, i < j → j < l.length → l[i]? ≠ l[j]?) : l.Nodup := by
  induction l with
  | nil => exact .nil
  | cons x l ih =>
    refine List.nodup_cons.mpr ⟨fun hx => ?_, ih fun i j a b => by have := h (i + 1) (j + 1) (by omega) (by simpa using b); simpa using this⟩
    obtain ⟨j, hj, e⟩ := List.getElem_of_mem hx
    exact h 0 (j + 1) (by omega) (by simpa using hj) (by simp [List.getElem?_eq_getElem hj, e])
theorem reach_le {cs : Case} {x y : Str} (h : Reach cs x y) : ∃ n, n ≤ cs.length ∧ goes cs n x = some y := by
  obtain ⟨n0, h0⟩ := h
  obtain ⟨n, _, hn, least⟩ := least_of (p := fun n => goes cs n x = some y) h0
  refine ⟨n, ?_, hn⟩
  have key : ∀ i, i < n → ∃ z g, goes cs i x = some z ∧ look cs z = some g := fun i hi => by
    obtain ⟨z, hz⟩ := goes_pre hn (Nat.le_of_lt hi)
    obtain ⟨g, hg⟩ := goes_pre (i := i + 1) hn hi
    have e : goes cs (i + 1) x = (goes cs i x).bind (look cs) := rfl
    rw [hz, hg] at e
    exact ⟨z, g, hz, e.symm⟩
  let l : List Str := (List.range n).map fun i => (goes cs i x).getD ""
  have ll : l.length = n := by simp [l]
  have at_l : ∀ i, i < n → l[i]? = goes cs i x := fun i hi => by
    obtain ⟨z, g, hz, _⟩ := key i hi
    simp [l, hi, hz]
  have nd : l.Nodup := nodup_of_inj fun i j hij hj e => by
    rw [ll] at hj
    rw [at_l i (by omega), at_l j hj] at e
    have e1 := goes_add (cs := cs) (i := i) (x := x) (n - j)
    have e2 := goes_add (cs := cs) (i := j) (x := x) (n - j)
    rw [e, ← e2, Nat.add_sub_cancel' (Nat.le_of_lt hj), hn] at e1
    exact least (i + (n - j)) (by omega) e1
  have := nodup_le (l := l) (m := cs.map (·.1)) nd fun z hz => by
    obtain ⟨i, hi, e⟩ := List.getElem_of_mem hz
    rw [ll] at hi
    have h1 := at_l i hi
    rw [List.getElem?_eq_getElem (by rw [ll]; exact hi), e] at h1
    obtain ⟨z', g, hz', hg⟩ := key i hi
    rw [hz'] at h1
    cases h1
    exact look_key hg
  rw [ll, List.length_map] at this
  exact this
/-- what stands above a: its giver, that one's giver .. -/
def Abv (cs : Case) (a y : Str) : Prop := ∃ n, goes cs (n + 1) a = some y
theorem reach_abv {cs : Case} {x y : Str} : Reach cs x y ↔ x = y ∨ Abv cs x y := by
  constructor
  · rintro ⟨n, h⟩
    cases n with
    | zero => exact .inl (Option.some.inj h)
    | succ n => exact .inr ⟨n, h⟩
  · rintro (rfl | ⟨n, h⟩)
    · exact ⟨0, rfl⟩
    · exact ⟨n + 1, h⟩
theorem abv_none {cs : Case} {a y : Str} (h : look cs a = none) : ¬ Abv cs a y := fun ⟨n, e⟩ => by
  rw [goes_one, h] at e
  cases e
theorem reach_key {cs : Case} {x y : Str} (h : Reach cs x y) (k : y ∈ cs.map (·.1)) : x ∈ cs.map (·.1) := by
  rcases reach_abv.mp h with rfl | ⟨n, e⟩
  · exact k
  · rw [goes_one] at e
    cases el : look cs x with
    | none => rw [el] at e; cases e
    | some g => exact look_key el
/-! what has been gone through, as a list -/
structure Gone (cs : Case) (a : Str) (k : Nat) (l : List Str) : Prop where
  mem : ∀ y, y ∈ l ↔ ∃ n, n < k ∧ goes cs (n + 1) a = some y
  nd : l.Nodup
theorem gone_end {cs : Case} {a : Str} {k : Nat} {l : List Str} (g : Gone cs a k l) (h : goes cs (k + 1) a = none) : ∀ y, y ∈ l ↔ Abv cs a y := fun y => by
  rw [g.mem y]
  refine ⟨fun ⟨n, _, e⟩ => ⟨n, e⟩, fun ⟨n, e⟩ => ⟨n, ?_, e⟩⟩
  rcases Nat.lt_or_ge n k with hn | hn
  · exact hn
  · obtain ⟨z, hz⟩ := goes_pre (i := k + 1) e (by omega)
    rw [h] at hz
    cases hz
theorem gone_ring {cs : Case} {a : Str} {k : Nat} {l : List Str} {z : Str} (g : Gone cs a k l) (h : goes cs (k + 1) a = some z) (hz : z ∈ l) : ∀ y, y ∈ l ↔ Abv cs a y := by
  obtain ⟨j, hj, ej⟩ := (g.mem z).mp hz
  have all : ∀ n y, goes cs (n + 1) a = some y → y ∈ l := fun n => by
    induction n using Nat.strongRecOn with
    | ind n ih =>
      intro y e
      rcases Nat.lt_or_ge n k with hn | hn
      · exact (g.mem y).mpr ⟨n, hn, e⟩
      · have e1 := goes_add (cs := cs) (i := k + 1) (x := a) (n - k)
        have e2 := goes_add (cs := cs) (i := j + 1) (x := a) (n - k)
        rw [h, ← ej, ← e2, show k + 1 + (n - k) = n + 1 by omega, e] at e1
        exact ih (j + (n - k)) (by omega) y (by rw [show j + (n - k) + 1 = j + 1 + (n - k) by omega]; exact e1.symm)
  exact fun y => ⟨fun hy => let ⟨n, _, e⟩ := (g.mem y).mp hy; ⟨n, e⟩, fun ⟨n, e⟩ => all n y e⟩
theorem gone_step {cs : Case} {a : Str} {k : Nat} {l : List Str} {z : Str} (g : Gone cs a k l) (h : goes cs (k + 1) a = some z) (hz : z ∉ l) : Gone cs a (k + 1) (l ++ [z]) := by
  refine ⟨fun y => ?_, List.nodup_append.mpr ⟨g.nd, List.nodup_cons.mpr ⟨nofun, .nil⟩, fun x hx y hy e => hz (by rw [← List.mem_singleton.mp hy, ← e]; exact hx)⟩⟩
  rw [List.mem_append, List.mem_singleton, g.mem y]
  constructor
  · rintro (⟨n, h1, h2⟩ | rfl)
    · exact ⟨n, by omega, h2⟩
    · exact ⟨k, by omega, h⟩
  · rintro ⟨n, h1, h2⟩
    rcases Nat.lt_or_ge n k with hn | hn
    · exact .inl ⟨n, hn, h2⟩
    · have e : n = k := by omega
      subst e
      rw [h] at h2
      exact .inr (Option.some.inj h2).symm
theorem goes_val {cs : Case} {n : Nat} {a y : Str} (h : goes cs (n + 1) a = some y) : y ∈ cs.map (·.2) := by
  have e : goes cs (n + 1) a = (goes cs n a).bind (look cs) := rfl
  rw [h] at e
  cases ez : goes cs n a with
  | none => rw [ez] at e; cases e
  | some z =>
    rw [ez] at e
    exact List.mem_map.mpr ⟨_, look_mem (show look cs z = some y from e.symm), rfl⟩
theorem gone_len {cs : Case} {a : Str} {k : Nat} {l : List Str} (g : Gone cs a k l) : l.length ≤ cs.length := by
  have := nodup_le (l := l) (m := cs.map (·.2)) g.nd fun y hy => let ⟨n, _, e⟩ := (g.mem y).mp hy; goes_val e
  rwa [List.length_map] at this
/-! the next one, the tied -/
def nextV (oo : Str) (xs : List Wi) (cs : Case) : Option Str := (xs.map (·.a) ++ cs.map (·.2)).find? fun y => (y != oo) && !(cs.map (·.1)).contains y
def strO : Option Str → D
  | none => .non
  | some y => .str y
structure IsTied (ts : List Ti) (a : Str) (ys : List Str) : Prop where
  nd : ys.Nodup
  so : sortedS ys = true
  mem : ∀ y, y ∈ ys ↔ ∃ t ∈ ts, t.b = a ∧ t.a = y
theorem tied_uniq {ts : List Ti} {a : Str} {ys zs : List Str} (h : IsTied ts a ys) (g : IsTied ts a zs) : ys = zs :=
  sorted_uniq h.so g.so (perm_of_mem h.nd g.nd fun y => (h.mem y).trans (g.mem y).symm)
theorem tied_len {ts : List Ti} {a : Str} {ys : List Str} (h : IsTied ts a ys) : ys.length ≤ ts.length := by
  have := nodup_le (l := ys) (m := ts.map (·.a)) h.nd fun y hy => by
    obtain ⟨t, h1, _, h3⟩ := (h.mem y).mp hy
    exact List.mem_map.mpr ⟨t, h1, h3⟩
  rwa [List.length_map] at this
def mostD : Option Int → D
  | none => .non
  | some m => .int m
def fullV (oo : Str) (xs : List Wi) (most : Option Int) (cs : Case) : Bool := match most with
  | none => false
  | some m => decide ((cs.length : Int) ≥ m) && (nextV oo xs cs).isSome
noncomputable def ringV (cs : Case) (a : Str) : Bool := @decide (Abv cs a a) (Classical.propDecidable _)
noncomputable def borneB (cs : Case) (a : Str) (x : Wi) : Bool := @decide (Reach cs x.a a) (Classical.propDecidable _)
def bearB (t : Ti) (b : List Wi) : Bool := b.all fun x => decide (t.s ≤ x.s) && decide (x.u ≤ t.u)
noncomputable def timeV (ts : List Ti) (xs : List Wi) (cs : Case) (a g : Str) : Bool := !((ts.filter fun t => (t.a == g) && (t.b == a)).any fun t => bearB t (xs.filter (borneB cs a)))
def Leaf79 (d : D) : Prop := d = .tup [.str "many"] ∨ ∃ a : Str, PyData.strOk a = true ∧ (d = .tup [.str "ring", .str a] ∨ d = .tup [.str "time", .str a])
def rwD (r : Str × D) : D := .tup [.str r.1, r.2]
end
section
variable {P : Program} {w : World} {K : PySem.W.Frag} {mg : Str → Option Value} {base : Heap} {tabs : List Addr}
/-! ### the program: above, in a ring -/
theorem getD_case (cs : Case) (x : Str) : getD ((cP cs).map (·.1)) ((cP cs).map (·.2)) (.inr x) = strO (look cs x) := by
  induction cs with
  | nil => rfl
  | cons p cs ih =>
    obtain ⟨a, b⟩ := p
    show (((((Sum.inr a : Key), D.str b) :: ((cP cs).map (·.1)).zip ((cP cs).map (·.2))).find? fun kv => decide (kv.1 = (Sum.inr x : Key))).map (·.2)).getD .non = strO (List.lookup x ((a, b) :: cs))
    rw [List.lookup_cons]
    by_cases h : x = a
    · subst h
      rw [beq_self_eq_true, List.find?_cons_of_pos (by simp)]
      rfl
    · rw [beq_false_of_ne h, List.find?_cons_of_neg (by simpa using fun e => h e.symm)]
      exact ih
theorem look_name {cs : Case} (ok : CsOk cs) {x g : Str} (h : look cs x = some g) : PyData.strOk x = true ∧ PyData.strOk g = true := ⟨name_cp (ok.a _ (look_mem h)), name_cp (ok.b _ (look_mem h))⟩
theorem goes_name {cs : Case} (ok : CsOk cs) {n : Nat} {a y : Str} (h : goes cs (n + 1) a = some y) : PyData.strOk y = true := by
  obtain ⟨p, hp, rfl⟩ := List.mem_map.mp (goes_val h)
  exact name_cp (ok.b p hp)
def wAbove : WFn := fun ds Q => ∃ (cs : Case) (a : Str), ds = [cD cs, .str a] ∧ CsOk cs ∧ PyData.strOk a = true ∧ ∀ l : List Str, l.length ≤ 6 → (∀ y ∈ l, PyData.strOk y = true) → (∀ y, y ∈ l ↔ Abv cs a y) → Q (.f (.lst (l.map D.str)))
theorem mono__above : MonoF wAbove := fun ds Q Q' i ⟨cs, a, h1, h2, h3, q⟩ => ⟨cs, a, h1, h2, h3, fun l a b c => i _ (q l a b c)⟩
theorem ok_above (T : Txt K mg) (A : At K mg "_above" s__above ["settled", "actor"]) : Cal P w K mg base 1 "_above" (spW K tabs (liftF wAbove)) := by
  refine A.of fun f fd F => fx_fnF F sc__above (fun ds Q ⟨_, _, h, _⟩ => by rw [h]; rfl) fun cdv A outer s H E TT P0 σ0 hcd hr => ⟨_, (gss_cons (gs_setE (i := 2) sc__above.nd rfl (Or.inl rfl) (ge_lstOD gd_nil))
      (gss_cons (gs_setE (i := 3) sc__above.nd rfl (Or.inl rfl) (ge_get hr.u65 (GE.of_pure (gp_var (pv 0))) (GE.of_pure (gp_var (pv 1))) ⟨rfl, rfl, rfl, rfl⟩))
      (gss_cons (gs_while PassesOwn.never (GW.gt (gw_and (gt_cmpP opx_notN (gp_var (pv 3)) gp_non (nomark _)) (gw_and1 (gt_cmpP (opx_nin hr.u65) (gp_var (pv 3)) (gp_var (pv 2)) (by rfl)))))
      (gss_cons (gs_append (pv 2) (gd_cons (GE.of_pure (gp_var (pv 3))) gd_nil))
      (gss_one (gs_setE (i := 3) sc__above.nd rfl (Or.inl rfl) (ge_getN hr.u65 (GE.of_pure (gp_var (pv 0))) (GE.of_pure (gp_var (pv 3))) ⟨rfl, rfl, rfl, rfl⟩)))))
      (gss_one (gs_ret (ge_move (pv 2))))))), fun ds Q ⟨cs, a, e, ok, ha, q⟩ => ?_⟩
  subst e
  have hcl := ok.len
  refine x_start (e := [some (.f (cD cs)), some (.f (.str a)), none, none]) rfl ?_
  walk_at "x"
  refine ⟨_, _, rfl, ?_⟩
  walk_at "x"
  refine ⟨.inr a, rfl, ?_⟩
  rw [getD_case]
  walk_at "x"
  refine ⟨fun m e => ∃ (k : Nat) (found : List Str), m + found.length = 7 ∧ Gone cs a k found ∧ (∀ y ∈ found, PyData.strOk y = true) ∧ e = [some (.f (cD cs)), some (.f (.str a)), some (.own (.lst (found.map D.str))), some (.f (strO (goes cs (k + 1) a)))], ⟨7, 0, [], rfl, ⟨fun y => ⟨nofun, fun ⟨n, h, _⟩ => absurd h (Nat.not_lt_zero n)⟩, .nil⟩, nofun, rfl⟩, ?_⟩
  rintro m e ⟨k, found, hm, g, so, rfl⟩
  have gl := gone_len g
  cases hg : goes cs (k + 1) a with
  | none =>
    dsimp only [strO]
    walk_at "x"
    exact ⟨_, _, rfl, rfl, nofun, Nat.le_of_ble_eq_true rfl, q found (by omega) so (gone_end g hg)⟩
  | some z =>
    have zn := goes_name ok hg
    dsimp only [strO]
    walk_at "x"
    refine x_ninL (okPy_str zn) (okPy_strs so) ?_
    rw [mem_strs]
    cases hc : found.contains z with
    | true =>
      walk_at "x"
      exact ⟨_, _, rfl, rfl, nofun, Nat.le_of_ble_eq_true rfl, q found (by omega) so (gone_ring g hg (by simpa using hc))⟩
    | false =>
      have hz : z ∉ found := by simpa using hc
      have g2 := gone_step g hg hz
      have gl2 := gone_len g2
      rw [List.length_append, List.length_singleton] at gl2
      walk_at "x"
      refine x_appE rfl (by rw [List.length_map]; omega) ?_
      walk_at "x"
      refine ⟨_, _, rfl, ?_⟩
      walk_at "x"
      refine ⟨some (.inr z), rfl, ?_⟩
      rw [show getO ((cP cs).map (·.1)) ((cP cs).map (·.2)) (some (.inr z)) = strO (look cs z) from getD_case cs z]
      walk_at "x"
      refine ⟨m - 1, by omega, k + 1, found ++ [z], by rw [List.length_append, List.length_singleton]; omega, g2, fun y hy => ?_, ?_⟩
      · rcases List.mem_append.mp hy with hy | hy
        · exact so y hy
        · rw [List.mem_singleton.mp hy]; exact zn
      · rw [List.map_append, show goes cs (k + 1 + 1) a = (goes cs (k + 1) a).bind (look cs) from rfl, hg]
        rfl
def wRing : WFn := fun ds Q => ∃ (cs : Case) (a : Str), ds = [cD cs, .str a] ∧ CsOk cs ∧ PyData.strOk a = true ∧ Q (.f (.bl (ringV cs a)))
theorem mono_is_in_ring : MonoF wRing := fun ds Q Q' i ⟨cs, a, h1, h2, h3, q⟩ => ⟨cs, a, h1, h2, h3, i _ q⟩
theorem ok_ring (T : Txt K mg) (c__above : Cal P w K mg base 1 "_above" (spW K tabs (liftF wAbove))) (A : At K mg "is_in_ring" s_is_in_ring ["settled", "actor"]) : Cal P w K mg base 2 "is_in_ring" (spW K tabs (liftF wRing)) := by
  refine A.of fun f fd F => fx_fnF F sc_is_in_ring (fun ds Q ⟨_, _, h, _⟩ => by rw [h]; rfl) fun cdv A outer s H E TT P0 σ0 hcd hr => ⟨_, (gss_one (gs_ret (ge_cmp (opx_in hr.u65) (GE.of_pure (gp_var (pv 1))) (ge_callF c__above hr (by first | decide | omega) rfl rfl rfl mono__above (gd_cons (GE.of_pure (gp_var (pv 0))) (gd_cons (GE.of_pure (gp_var (pv 1))) gd_nil))) (by rfl)))), fun ds Q ⟨cs, a, e, ok, ha, q⟩ => ?_⟩
  subst e
  refine x_start (e := [some (.f (cD cs)), some (.f (.str a))]) rfl ?_
  walk_at "x"
  refine ⟨cs, a, rfl, ok, ha, fun l ll so mem => ?_⟩
  walk_at "x"
  refine x_inL (okPy_str ha) (okPy_strs so) ?_
  rw [mem_strs]
  have e : l.contains a = ringV cs a := by
    unfold ringV
    rw [Bool.eq_iff_iff, List.contains_iff_mem, mem a]
    exact (@decide_eq_true_iff _ (_)).symm
  rw [e]
  walk_at "x"
  exact q

end
section
variable {P : Program} {w : World} {K : PySem.W.Frag} {mg : Str → Option Value} {base : Heap} {tabs : List Addr}
/-! ### the program: who lacks time -/
def wBears : WFn := fun ds Q => ∃ (t : Ti) (b : List Wi), ds = [t.d, .lst (b.map Wi.d)] ∧ b.length ≤ 6 ∧ Q (.f (.bl (bearB t b)))
theorem mono__bears : MonoF wBears := fun ds Q Q' i ⟨t, b, h1, h2, q⟩ => ⟨t, b, h1, h2, i _ q⟩
theorem ok_bears (T : Txt K mg) (A : At K mg "_bears" s__bears ["tie", "wishes"]) : Cal P w K mg base 1 "_bears" (spW K tabs (liftF wBears)) := by
  refine A.of fun f fd F => fx_fnF F sc__bears (fun ds Q ⟨_, _, h, _⟩ => by rw [h]; rfl) fun cdv A outer s H E TT P0 σ0 hcd hr => ⟨_, (gss_one (gs_ret (ge_cbB (cax_all rfl) (by rfl) T.z_all (by decide +kernel) (gd_cons (ge_frz (ge_lcR (own := [("wish", 2)]) (t := .name 2) rfl sc__bears.nd (gi_list (GE.of_pure (gp_var (pv 1)))) (blkOk_by (own := [("wish", 2)]) (N := ["tie", "wishes", "wish"]) (sc := defScope s__bears) (by decide +kernel)) (fun _ _ _ _ _ => (pg_name (i := 2) sc__bears.nd rfl (Or.inl rfl))) (fun _ _ _ _ _ => (ge_and (GE.of_pure (gp_cmp opx_le (gp_ix ixx (gp_var (pv 0)) gp_int (fun _ _ => rfl)) (gp_ix ixx (gp_var (pv 2)) gp_int (fun _ _ => rfl)) (nomark _))) (ge_one (GE.of_pure (gp_cmp opx_le (gp_ix ixx (gp_var (pv 2)) gp_int (fun _ _ => rfl)) (gp_ix ixx (gp_var (pv 0)) gp_int (fun _ _ => rfl)) (nomark _)))))) (by decide) (mem1 rfl) (mem1 (Nat.le_of_ble_eq_true rfl)))) gd_nil)))), fun ds Q ⟨t, b, e, bl, q⟩ => ?_⟩
  subst e
  refine x_start (e := [some (.f (.tup [.str t.a, .str t.b, .int t.s, .int t.u])), some (.f (.lst (b.map Wi.d))), none]) rfl ?_
  walk_at "x"
  let bt : Wi → Bool := fun x => decide (t.s ≤ x.s) && decide (x.u ≤ t.u)
  refine ⟨by rw [List.length_map]; omega, fun i acc e => acc = ((b.take i).map bt).map D.bl ∧ ∃ x2, e = [some (.f (.tup [.str t.a, .str t.b, .int t.s, .int t.u])), some (.f (.lst (b.map Wi.d))), x2], ⟨rfl, _, rfl⟩, ?_, ?_⟩
  · rintro i d acc e hd ⟨rfl, x2, rfl⟩
    rw [List.getElem?_map] at hd
    obtain ⟨x, hx, rfl⟩ := Option.map_eq_some_iff.mp hd
    refine ⟨_, rfl, ?_⟩
    dsimp only [List.map_cons, List.map_nil, wipeE, setE, Tgt.js, List.set_cons_zero, List.set_cons_succ]
    rw [show x.d = .tup [.str x.a, x.p, .int x.s, .int x.u] from rfl]
    walk_at "x"
    refine x_ite (fun h3 => ?_) (fun h3 => ?_)
    · walk_at "x"
      exact ⟨by rw [take_snoc hx, List.map_append, List.map_append]; show _ = _ ++ [D.bl (decide (t.s ≤ x.s) && decide (x.u ≤ t.u))]; rw [h3, Bool.true_and], _, rfl⟩
    · walk_at "x"
      exact ⟨by rw [take_snoc hx, List.map_append, List.map_append]; show _ = _ ++ [D.bl (decide (t.s ≤ x.s) && decide (x.u ≤ t.u))]; rw [h3, Bool.false_and], _, rfl⟩
  rintro acc e ⟨rfl, x2, rfl⟩
  rw [List.length_map, List.take_length]
  try dsimp only [List.map_cons, List.map_nil, wipeE, List.set_cons_zero, List.set_cons_succ]
  walk_at "x"
  refine x_all ?_
  rw [List.all_map, show (id ∘ bt) = bt from rfl]
  walk_at "x"
  exact q
def wLacks : WFn := fun ds Q => ∃ (oo : Str) (ts : List Ti) (xs : List Wi) (cs : Case) (a g : Str), ds = [trustD oo ts xs, cD cs, .str a] ∧ TrOk oo ts xs ∧ CsOk cs ∧ look cs a = some g ∧ Q (.f (.bl (timeV ts xs cs a g)))
theorem mono_lacks_time : MonoF wLacks := fun ds Q Q' i ⟨oo, ts, xs, cs, a, g, h1, h2, h3, h4, q⟩ => ⟨oo, ts, xs, cs, a, g, h1, h2, h3, h4, i _ q⟩
theorem borne_eq {cs : Case} {a : Str} {x : Wi} : borneB cs a x = true ↔ Reach cs x.a a := @decide_eq_true_iff _ (_)
theorem ok_lacks (T : Txt K mg) (c__above : Cal P w K mg base 1 "_above" (spW K tabs (liftF wAbove))) (c__bears : Cal P w K mg base 1 "_bears" (spW K tabs (liftF wBears))) (A : At K mg "lacks_time" s_lacks_time ["trust", "settled", "actor"]) : Cal P w K mg base 2 "lacks_time" (spW K tabs (liftF wLacks)) := by
  refine A.of fun f fd F => fx_fnF F sc_lacks_time (fun ds Q ⟨_, _, _, _, _, _, h, _⟩ => by rw [h]; rfl) fun cdv A outer s H E TT P0 σ0 hcd hr => ⟨_, (gss_cons (gs_setE (i := 3) sc_lacks_time.nd rfl (Or.inr rfl) (ge_frz (ge_lcR1 (own := [("wish", 4)]) (t := .name 4) rfl sc_lacks_time.nd (gi_tup (GE.of_pure (gp_ix ixx (gp_var (pv 0)) (gp_k T.g_WISHES rfl) (fun _ _ => rfl)))) (blkOk_by (own := [("wish", 4)]) (N := ["trust", "settled", "actor", "borne", "wish", "ties", "tie"]) (sc := defScope s_lacks_time) (by decide +kernel)) (fun _ _ _ _ _ => (pg_name (i := 4) sc_lacks_time.nd rfl (Or.inl rfl))) (fun _ _ _ _ _ => (GW.gt (gw_or (gt_cmpP (opx_eq hr.units) (gp_ix ixx (gp_var (pv 4)) gp_int (fun _ _ => rfl)) (gp_var (pv 2)) (nomark _)) (gw_or1 (gt_cmp (opx_in hr.u65) (GE.of_pure (gp_var (pv 2))) (ge_callF c__above hr (by first | decide | omega) rfl rfl rfl mono__above (gd_cons (GE.of_pure (gp_var (pv 1))) (gd_cons (GE.of_pure (gp_ix ixx (gp_var (pv 4)) gp_int (fun _ _ => rfl))) gd_nil))) (by rfl)))))) (fun _ _ _ _ _ => (GE.of_pure (gp_var (pv 4)))) (by decide) (mem1 rfl) (mem1 (Nat.le_of_ble_eq_true rfl)))))
      (gss_cons (gs_lcFR1 (i := 5) (own := [("tie", 6)]) (t := .name 6) rfl sc_lacks_time.nd rfl rfl (sw_true rfl rfl rfl (by decide +kernel)) (gi_tup (GE.of_pure (gp_ix ixx (gp_var (pv 0)) (gp_k T.g_TIES rfl) (fun _ _ => rfl)))) (blkOk_by (own := [("tie", 6)]) (N := ["trust", "settled", "actor", "borne", "wish", "ties", "tie"]) (sc := defScope s_lacks_time) (by decide +kernel)) (fun _ _ _ _ _ => (pg_name (i := 6) sc_lacks_time.nd rfl (Or.inl rfl))) (fun _ _ _ _ _ => (gt_cmp (opx_eq hr.units) (ge_sl (GE.of_pure (gp_var (pv 6))) go_none (go_some (GE.of_pure gp_int))) (ge_tupD (gd_cons (ge_dix (u1 hr) (GE.of_pure (gp_var (pv 1))) (GE.of_pure (gp_var (pv 2))) (fun _ _ => rfl)) (gd_cons (GE.of_pure (gp_var (pv 2))) gd_nil))) (nomark _))) (fun _ _ _ _ _ => (GE.of_pure (gp_var (pv 6)))) (by decide) (mem1 rfl) (mem1 (Nat.le_of_ble_eq_true rfl)))
      (gss_one (gs_ret (ge_not (ge_cbB (cax_any rfl) (by rfl) T.z_any (by decide +kernel) (gd_cons (ge_frz (ge_lcR (own := [("tie", 6)]) (t := .name 6) rfl sc_lacks_time.nd (gi_list (GE.of_pure (gp_var (pv 5)))) (blkOk_by (own := [("tie", 6)]) (N := ["trust", "settled", "actor", "borne", "wish", "ties", "tie"]) (sc := defScope s_lacks_time) (by decide +kernel)) (fun _ _ _ _ _ => (pg_name (i := 6) sc_lacks_time.nd rfl (Or.inl rfl))) (fun _ _ _ _ _ => (ge_callF c__bears hr (by first | decide | omega) rfl rfl rfl mono__bears (gd_cons (GE.of_pure (gp_var (pv 6))) (gd_cons (GE.of_pure (gp_var (pv 3))) gd_nil)))) (by decide) (mem1 rfl) (mem1 (Nat.le_of_ble_eq_true rfl)))) gd_nil))))))), fun ds Q ⟨oo, ts, xs, cs, a, g, e, tr, ok, lk, q⟩ => ?_⟩
  subst e
  have hx6 := tr.x6
  have tl := tr.tl
  obtain ⟨ha, hg⟩ := look_name ok lk
  refine x_start (e := [some (.f (.tup [.str oo, .tup (ts.map Ti.d), .tup (xs.map Wi.d)])), some (.f (cD cs)), some (.f (.str a)), none, none, none, none]) rfl ?_
  walk_at "x"
  refine ⟨by rw [List.length_map]; omega, fun i acc e => acc = ((xs.take i).filter (borneB cs a)).map Wi.d ∧ ∃ x4, e = [some (.f (.tup [.str oo, .tup (ts.map Ti.d), .tup (xs.map Wi.d)])), some (.f (cD cs)), some (.f (.str a)), none, x4, none, none], ⟨rfl, _, rfl⟩, ?_, ?_⟩
  · rintro i d acc e hd ⟨rfl, x4, rfl⟩
    rw [List.getElem?_map] at hd
    obtain ⟨x, hx, rfl⟩ := Option.map_eq_some_iff.mp hd
    have xok := tr.hxs x (List.mem_of_getElem? hx)
    have yes : Reach cs x.a a → ((xs.take i).filter (borneB cs a)).map Wi.d ++ [x.d] = ((xs.take (i + 1)).filter (borneB cs a)).map Wi.d := fun h => by
      rw [take_snoc hx, List.filter_append, List.filter_cons_of_pos (borne_eq.mpr h), List.filter_nil, List.map_append]
      rfl
    have no : ¬ Reach cs x.a a → ((xs.take i).filter (borneB cs a)).map Wi.d = ((xs.take (i + 1)).filter (borneB cs a)).map Wi.d := fun h => by
      rw [take_snoc hx, List.filter_append, List.filter_cons_of_neg (fun k => h (borne_eq.mp k)), List.filter_nil, List.append_nil]
    rw [show x.d = .tup [.str x.a, x.p, .int x.s, .int x.u] from rfl] at yes ⊢
    refine ⟨_, rfl, ?_⟩
    dsimp only [List.map_cons, List.map_nil, wipeE, setE, Tgt.js, List.set_cons_zero, List.set_cons_succ]
    walk_at "x"
    refine x_eqD (okPy_str (name_cp xok.a)) (okPy_str ha) ?_
    rw [eq_strs]
    cases hc : x.a == a with
    | true =>
      walk_at "x"
      exact ⟨yes (reach_abv.mpr (.inl (eq_of_beq hc))), _, rfl⟩
    | false =>
      walk_at "x"
      refine ⟨cs, x.a, rfl, ok, name_cp xok.a, fun l ll so mem => ?_⟩
      walk_at "x"
      refine x_inL (okPy_str ha) (okPy_strs so) ?_
      rw [mem_strs]
      cases hl : l.contains a with
      | true =>
        walk_at "x"
        exact ⟨yes (reach_abv.mpr (.inr ((mem a).mp (by simpa using hl)))), _, rfl⟩
      | false =>
        walk_at "x"
        refine ⟨no fun k => ?_, _, rfl⟩
        rcases reach_abv.mp k with e | e
        · rw [e, beq_self_eq_true] at hc; cases hc
        · have := (mem a).mpr e
          rw [List.contains_iff_mem.mpr this] at hl
          cases hl
  rintro acc e ⟨rfl, x4, rfl⟩
  rw [List.length_map, List.take_length]
  have bl : (xs.filter (borneB cs a)).length ≤ 6 := Nat.le_trans (List.length_filter_le ..) hx6
  unfold timeV at q
  generalize xs.filter (borneB cs a) = b at bl q
  try dsimp only [List.map_cons, List.map_nil, wipeE, List.set_cons_zero, List.set_cons_succ]
  walk_at "x"
  let hit : Ti → Bool := fun t => (t.a == g) && (t.b == a)
  refine ⟨by rw [List.length_map]; omega, fun i acc e => acc = ((ts.take i).filter hit).map Ti.d ∧ ∃ x6, e = [some (.f (.tup [.str oo, .tup (ts.map Ti.d), .tup (xs.map Wi.d)])), some (.f (cD cs)), some (.f (.str a)), some (.f (.lst (b.map Wi.d))), none, none, x6], ⟨rfl, _, rfl⟩, ?_, ?_⟩
  · rintro i d acc e hd ⟨rfl, x6, rfl⟩
    rw [List.getElem?_map] at hd
    obtain ⟨t, ht, rfl⟩ := Option.map_eq_some_iff.mp hd
    have okt := tr.hts t (List.mem_of_getElem? ht)
    refine ⟨_, rfl, ?_⟩
    dsimp only [List.map_cons, List.map_nil, wipeE, setE, Tgt.js, List.set_cons_zero, List.set_cons_succ]
    rw [show t.d = .tup [.str t.a, .str t.b, .int t.s, .int t.u] from rfl]
    walk_at "x"
    refine x_slT (ds' := [.str t.a, .str t.b]) rfl ?_
    walk_at "x"
    refine ⟨cP cs, rfl, ?_⟩
    walk_at "x"
    refine ⟨.inr a, .str g, rfl, by rw [getP_case, lk]; rfl, ?_⟩
    walk_at "x"
    refine x_eqD (pair_ok (name_cp okt.a) (name_cp okt.b)) (pair_ok hg ha) ?_
    rw [eqB_pair]
    walk_at "x"
    have sn : (ts.take (i + 1)).filter hit = (ts.take i).filter hit ++ [t].filter hit := by rw [take_snoc ht, List.filter_append]
    cases hc : ((t.a == g) && (t.b == a)) with
    | true =>
      rw [if_pos rfl]
      rw [show [t].filter hit = [t] by rw [List.filter_cons, if_pos (show hit t = true from hc)]; rfl] at sn
      walk_at "x"
      exact ⟨by rw [sn, List.map_append]; rfl, _, rfl⟩
    | false =>
      rw [if_neg Bool.false_ne_true]
      rw [show [t].filter hit = [] by rw [List.filter_cons, if_neg (by rw [show hit t = false from hc]; decide)]; rfl, List.append_nil] at sn
      exact ⟨by rw [sn], _, rfl⟩
  rintro acc e ⟨rfl, x6, rfl⟩
  rw [List.length_map, List.take_length]
  have fl : (ts.filter hit).length ≤ 20 := Nat.le_trans (List.length_filter_le ..) tl
  have q : Q (.f (.bl (!(ts.filter hit).any fun t => bearB t b))) := q
  generalize ts.filter hit = fs at fl q
  try dsimp only [List.map_cons, List.map_nil, wipeE, List.set_cons_zero, List.set_cons_succ]
  walk_at "x"
  let bb : Ti → Bool := fun t => bearB t b
  refine ⟨by rw [List.length_map]; omega, fun i acc e => acc = ((fs.take i).map bb).map D.bl ∧ ∃ x6, e = [some (.f (.tup [.str oo, .tup (ts.map Ti.d), .tup (xs.map Wi.d)])), some (.f (cD cs)), some (.f (.str a)), some (.f (.lst (b.map Wi.d))), none, some (.f (.lst (fs.map Ti.d))), x6], ⟨rfl, _, rfl⟩, ?_, ?_⟩
  · rintro i d acc e hd ⟨rfl, x6, rfl⟩
    rw [List.getElem?_map] at hd
    obtain ⟨t, ht, rfl⟩ := Option.map_eq_some_iff.mp hd
    refine ⟨_, rfl, ?_⟩
    dsimp only [List.map_cons, List.map_nil, wipeE, setE, Tgt.js, List.set_cons_zero, List.set_cons_succ]
    walk_at "x"
    refine ⟨t, b, rfl, bl, ?_⟩
    walk_at "x"
    exact ⟨by rw [take_snoc ht, List.map_append, List.map_append]; rfl, _, rfl⟩
  rintro acc e ⟨rfl, x6, rfl⟩
  rw [List.length_map, List.take_length]
  try dsimp only [List.map_cons, List.map_nil, wipeE, List.set_cons_zero, List.set_cons_succ]
  walk_at "x"
  refine x_any ?_
  rw [List.any_map, show (id ∘ bb) = bb from rfl]
  walk_at "x"
  exact q

end
section
variable {P : Program} {w : World} {K : PySem.W.Frag} {mg : Str → Option Value} {base : Heap} {tabs : List Addr}
/-! ### the program: the next one, the tied, full -/
theorem next_names {xs : List Wi} {cs : Case} {oo : Str} {ts : List Ti} (tr : TrOk oo ts xs) (ok : CsOk cs) : ∀ y ∈ xs.map (·.a) ++ cs.map (·.2), nameB (.str y) = true := fun y hy => by
  rcases List.mem_append.mp hy with hy | hy
  · obtain ⟨x, hx, rfl⟩ := List.mem_map.mp hy
    exact (tr.hxs x hx).a
  · obtain ⟨p, hp, rfl⟩ := List.mem_map.mp hy
    exact ok.b p hp
theorem next_name {xs : List Wi} {cs : Case} {oo y : Str} {ts : List Ti} (tr : TrOk oo ts xs) (ok : CsOk cs) (h : nextV oo xs cs = some y) : nameB (.str y) = true := next_names tr ok y (List.mem_of_find?_eq_some h)
theorem next_new {xs : List Wi} {cs : Case} {oo y : Str} (h : nextV oo xs cs = some y) : y ≠ oo ∧ y ∉ cs.map (·.1) := by
  have := List.find?_some h
  simpa using this
/-- what is looked through, one by one -/
theorem find_up {l : List Str} {p : Str → Bool} {i : Nat} {y : Str} (h : ∀ j z, j < i → l[j]? = some z → p z = false) (hy : l[i]? = some y) (hp : p y = true) : l.find? p = some y := by
  induction l generalizing i with
  | nil => cases hy
  | cons x l ih =>
    cases i with
    | zero =>
      cases hy
      rw [List.find?_cons_of_pos hp]
    | succ i =>
      have hx := h 0 x (Nat.succ_pos _) rfl
      rw [List.find?_cons_of_neg (by rw [hx]; decide)]
      exact ih (fun j z hj hz => h (j + 1) z (Nat.succ_lt_succ hj) hz) hy
theorem find_no {l : List Str} {p : Str → Bool} (h : ∀ j z, j < l.length → l[j]? = some z → p z = false) : l.find? p = none := by
  rw [List.find?_eq_none]
  intro z hz
  obtain ⟨j, hj, e⟩ := List.getElem_of_mem hz
  rw [h j z hj (by rw [List.getElem?_eq_getElem hj, e])]
  decide
theorem find_cut {l : List Str} {p q : Str → Bool} (h : ∀ z, q z = false → p z = false) : (l.filter q).find? p = l.find? p := by
  induction l with
  | nil => rfl
  | cons x l ih =>
    cases hq : q x with
    | true =>
      rw [List.filter_cons_of_pos hq]
      cases hp : p x with
      | true => rw [List.find?_cons_of_pos hp, List.find?_cons_of_pos hp]
      | false => rw [List.find?_cons_of_neg (by rw [hp]; decide), List.find?_cons_of_neg (by rw [hp]; decide), ih]
    | false => rw [List.filter_cons_of_neg (by rw [hq]; decide), List.find?_cons_of_neg (by rw [h x hq]; decide), ih]
theorem vals_case (cs : Case) : (cP cs).map (·.2) = (cs.map (·.2)).map D.str := by
  unfold cP
  rw [List.map_map, List.map_map]
  rfl
theorem getP_key {cs : Case} (y : Str) : (getP (cP cs) (.inr y)).isSome = (cs.map (·.1)).contains y := by
  rw [getP_case]
  induction cs with
  | nil => rfl
  | cons p cs ih =>
    obtain ⟨a, b⟩ := p
    show ((List.lookup y ((a, b) :: cs)).map D.str).isSome = (a :: cs.map (·.1)).contains y
    rw [List.lookup_cons, List.contains_cons]
    cases h : y == a with
    | true => rfl
    | false => rw [Bool.false_or]; exact ih
def wNextA : WFn := fun ds Q => ∃ (oo : Str) (ts : List Ti) (xs : List Wi) (cs : Case), ds = [trustD oo ts xs, cD cs] ∧ TrOk oo ts xs ∧ CsOk cs ∧ Q (.f (strO (nextV oo xs cs)))
theorem mono_next_actor : MonoF wNextA := fun ds Q Q' i ⟨oo, ts, xs, cs, h1, h2, h3, q⟩ => ⟨oo, ts, xs, cs, h1, h2, h3, i _ q⟩
theorem ok_nexta (T : Txt K mg) (A : At K mg "next_actor" s_next_actor ["trust", "settled"]) : Cal P w K mg base 1 "next_actor" (spW K tabs (liftF wNextA)) := by
  refine A.of fun f fd F => fx_fnF F sc_next_actor (fun ds Q ⟨_, _, _, _, h, _⟩ => by rw [h]; rfl) fun cdv A outer s H E TT P0 σ0 hcd hr => ⟨_, (gss_cons (gs_lcR (i := 2) (own := [("wish", 3)]) (t := .name 3) rfl sc_next_actor.nd rfl rfl (sw_true rfl rfl rfl (by decide +kernel)) (gi_tup (GE.of_pure (gp_ix ixx (gp_var (pv 0)) (gp_k T.g_WISHES rfl) (fun _ _ => rfl)))) (blkOk_by (own := [("wish", 3)]) (N := ["trust", "settled", "needed", "wish", "giver", "actor"]) (sc := defScope s_next_actor) (by decide +kernel)) (fun _ _ _ _ _ => (pg_name (i := 3) sc_next_actor.nd rfl (Or.inl rfl))) (fun _ _ _ _ _ => (GE.of_pure (gp_ix ixx (gp_var (pv 3)) gp_int (fun _ _ => rfl)))) (by decide) (mem1 rfl) (mem1 (Nat.le_of_ble_eq_true rfl)))
      (gss_cons (gs_extend (pv 2) (ge_fz (i := 1) (fun Tz Hz Pz σz hz => (ge_lcR1 (own := [("giver", 4)]) (t := .name 4) rfl sc_next_actor.nd (gi_values hz (pv 1)) (blkOk_by (own := [("giver", 4)]) (N := ["trust", "settled", "needed", "wish", "giver", "actor"]) (sc := defScope s_next_actor) (by decide +kernel)) (fun _ _ _ _ _ => (pg_name (i := 4) sc_next_actor.nd rfl (Or.inl rfl))) (fun _ _ _ _ _ => (gt_cmpP (opx_ne hr.units) (gp_var (pv 4)) (gp_ix ixx (gp_var (pv 0)) (gp_k T.g_OWNER rfl) (fun _ _ => rfl)) (nomark _))) (fun _ _ _ _ _ => (GE.of_pure (gp_var (pv 4)))) (by decide) (mem1 rfl) (mem1 (Nat.le_of_ble_eq_true rfl))))))
      (gss_cons (gs_for PassesOwn.never rfl (gi_list (ge_move (pv 2))) (gg_name (pg_name (i := 5) sc_next_actor.nd rfl (Or.inl rfl)) rfl)
      (gss_one (gs_if (gt_cmpP (opx_ninD (u1 hr)) (gp_var (pv 5)) (gp_var (pv 1)) (by rfl))
      (gss_one (gs_ret (GE.of_pure (gp_var (pv 5)))))
      gss_nil)))
      (gss_one (gs_ret (GE.of_pure gp_non)))))), fun ds Q ⟨oo, ts, xs, cs, e, tr, ok, q⟩ => ?_⟩
  subst e
  have hx6 := tr.x6
  have hcl := ok.len
  refine x_start (e := [some (.f (.tup [.str oo, .tup (ts.map Ti.d), .tup (xs.map Wi.d)])), some (.f (cD cs)), none, none, none, none]) rfl ?_
  walk_at "x"
  refine ⟨by rw [List.length_map]; omega, fun i acc e => acc = ((xs.take i).map (·.a)).map D.str ∧ ∃ x3, e = [some (.f (.tup [.str oo, .tup (ts.map Ti.d), .tup (xs.map Wi.d)])), some (.f (cD cs)), none, x3, none, none], ⟨rfl, _, rfl⟩, ?_, ?_⟩
  · rintro i d acc e hd ⟨rfl, x3, rfl⟩
    rw [List.getElem?_map] at hd
    obtain ⟨x, hx, rfl⟩ := Option.map_eq_some_iff.mp hd
    refine ⟨_, rfl, ?_⟩
    dsimp only [List.map_cons, List.map_nil, wipeE, setE, Tgt.js, List.set_cons_zero, List.set_cons_succ]
    rw [show x.d = .tup [.str x.a, x.p, .int x.s, .int x.u] from rfl]
    walk_at "x"
    exact ⟨by rw [take_snoc hx, List.map_append, List.map_append]; rfl, _, rfl⟩
  rintro acc e ⟨rfl, x3, rfl⟩
  rw [List.length_map, List.take_length]
  try dsimp only [List.map_cons, List.map_nil, wipeE, List.set_cons_zero, List.set_cons_succ]
  walk_at "x"
  rw [vals_case]
  try dsimp only [List.map_cons, List.map_nil, wipeE, List.set_cons_zero, List.set_cons_succ]
  let ne : Str → Bool := fun y => y != oo
  refine ⟨by rw [List.length_map, List.length_map]; omega, fun i acc e => acc = (((cs.map (·.2)).take i).filter ne).map D.str ∧ ∃ x4, e = [some (.f (.tup [.str oo, .tup (ts.map Ti.d), .tup (xs.map Wi.d)])), some (.f (cD cs)), some (.own (.lst ((xs.map (·.a)).map D.str))), none, x4, none], ⟨rfl, _, rfl⟩, ?_, ?_⟩
  · rintro i d acc e hd ⟨rfl, x4, rfl⟩
    obtain ⟨y, hy, rfl⟩ := at_map hd
    obtain ⟨p, hp, ep⟩ := List.mem_map.mp (List.mem_of_getElem? hy)
    have yn : nameB (.str y) = true := by rw [← ep]; exact ok.b p hp
    refine ⟨_, rfl, ?_⟩
    dsimp only [List.map_cons, List.map_nil, wipeE, setE, Tgt.js, List.set_cons_zero, List.set_cons_succ]
    walk_at "x"
    refine x_neD (okPy_str (name_cp yn)) (okPy_str (name_cp tr.hoo)) ?_
    rw [eq_strs]
    have sn : ((cs.map (·.2)).take (i + 1)).filter ne = ((cs.map (·.2)).take i).filter ne ++ [y].filter ne := by rw [take_snoc hy, List.filter_append]
    cases hc : y == oo with
    | true =>
      rw [show [y].filter ne = [] by rw [List.filter_cons, if_neg (by rw [show ne y = !(y == oo) from rfl, hc]; decide)]; rfl, List.append_nil] at sn
      walk_at "x"
      exact ⟨by rw [sn], _, rfl⟩
    | false =>
      rw [show [y].filter ne = [y] by rw [List.filter_cons, if_pos (by rw [show ne y = !(y == oo) from rfl, hc]; rfl)]; rfl] at sn
      walk_at "x"
      exact ⟨by rw [sn, List.map_append]; rfl, _, rfl⟩
  rintro acc e ⟨rfl, x4, rfl⟩
  rw [List.length_map, List.take_length]
  try dsimp only [List.map_cons, List.map_nil, wipeE, List.set_cons_zero, List.set_cons_succ]
  have fl : ((cs.map (·.2)).filter ne).length ≤ 6 := Nat.le_trans (List.length_filter_le ..) (by rw [List.length_map]; exact hcl)
  refine ⟨_, _, rfl, rfl, by rw [List.length_map, List.length_map, List.length_map, sizeLine_eq]; omega, ?_⟩
  rw [← List.map_append]
  have kok : ∀ y ∈ xs.map (·.a) ++ (cs.map (·.2)).filter ne, nameB (.str y) = true := fun y hy => next_names tr ok y (by
    rcases List.mem_append.mp hy with hy | hy
    · exact List.mem_append_left _ hy
    · exact List.mem_append_right _ (List.mem_filter.mp hy).1)
  have eqv : nextV oo xs cs = (xs.map (·.a) ++ (cs.map (·.2)).filter ne).find? (fun y => (y != oo) && !(cs.map (·.1)).contains y) := by
    unfold nextV
    rw [List.find?_append, List.find?_append, find_cut]
    intro z hz
    rw [show (z != oo) = ne z from rfl, hz, Bool.false_and]
  have noo : ∀ y ∈ xs.map (·.a) ++ (cs.map (·.2)).filter ne, (y != oo) = true := fun y hy => by
    rcases List.mem_append.mp hy with hy | hy
    · obtain ⟨x, hx, rfl⟩ := List.mem_map.mp hy
      simpa using tr.no x hx
    · exact (List.mem_filter.mp hy).2
  rw [eqv] at q
  generalize xs.map (·.a) ++ (cs.map (·.2)).filter ne = all at kok noo q
  walk_at "x"
  refine ⟨_, _, rfl, rfl, _, rfl, fun i e => (∀ j z, j < i → all[j]? = some z → (cs.map (·.1)).contains z = true) ∧ ∃ x2 x5, e = [some (.f (.tup [.str oo, .tup (ts.map Ti.d), .tup (xs.map Wi.d)])), some (.f (cD cs)), x2, none, none, x5], ⟨fun j y h => absurd h (Nat.not_lt_zero _), _, _, rfl⟩, ?_, ?_⟩
  · rintro i d e hd ⟨hj, x2, x5, rfl⟩
    obtain ⟨y, hy, rfl⟩ := at_map hd
    have ym := List.mem_of_getElem? hy
    walk_at "x"
    refine x_ninD (k := .inr y) (l := cP cs) ?_
    rw [getP_key]
    cases hc : (cs.map (·.1)).contains y with
    | true =>
      walk_at "x"
      exact ⟨fun j z hj2 hz => by
        rcases Nat.lt_or_ge j i with h | h
        · exact hj j z h hz
        · rw [show j = i by omega, hy] at hz
          cases hz
          exact hc, _, _, rfl⟩
    | false =>
      walk_at "x"
      rw [find_up (i := i) (fun j z hj2 hz => by rw [hj j z hj2 hz]; simp) hy (by rw [noo y ym, hc]; rfl)] at q
      exact q
  rintro e ⟨hj, x2, x5, rfl⟩
  rw [List.length_map] at hj
  walk_at "x"
  rw [find_no fun j z hj2 hz => by rw [hj j z hj2 hz]; simp] at q
  exact q
def wGivers : WFn := fun ds Q => ∃ (oo : Str) (ts : List Ti) (xs : List Wi) (a : Str), ds = [trustD oo ts xs, .str a] ∧ TrOk oo ts xs ∧ PyData.strOk a = true ∧ ∀ ys : List Str, IsTied ts a ys → Q (.f (.lst (ys.map D.str)))
theorem mono_givers_to : MonoF wGivers := fun ds Q Q' i ⟨oo, ts, xs, cs, h1, h2, h3, q⟩ => ⟨oo, ts, xs, cs, h1, h2, h3, fun y h => i _ (q y h)⟩
def tiedT (a : Str) (t : Ti) : Bool := t.b == a
theorem tied_of {ts : List Ti} {a : Str} {ys : List Str} (nd : ys.Nodup) (so : sortedS ys = true) (mm : ∀ y, y ∈ ys ↔ y ∈ (ts.filter (tiedT a)).map (·.a)) : IsTied ts a ys := by
  refine ⟨nd, so, fun y => (mm y).trans ⟨fun hy => ?_, fun ⟨t, h1, h2, h3⟩ => ?_⟩⟩
  · obtain ⟨t, h1, h2⟩ := List.mem_map.mp hy
    obtain ⟨h3, h4⟩ := List.mem_filter.mp h1
    exact ⟨t, h3, eq_of_beq h4, h2⟩
  · exact List.mem_map.mpr ⟨t, List.mem_filter.mpr ⟨h1, beq_iff_eq.mpr h2⟩, h3⟩
theorem ok_givers (T : Txt K mg) (A : At K mg "givers_to" s_givers_to ["trust", "actor"]) : Cal P w K mg base 1 "givers_to" (spW K tabs (liftF wGivers)) := by
  refine A.of fun f fd F => fx_fnF F sc_givers_to (fun ds Q ⟨_, _, _, _, h, _⟩ => by rw [h]; rfl) fun cdv A outer s H E TT P0 σ0 hcd hr => ⟨_, (gss_one (gs_ret (ge_sortedSC1 (own := [("tie", 2)]) (t := .name 2) rfl sc_givers_to.nd rfl T.z_sorted (gi_tup (GE.of_pure (gp_ix ixx (gp_var (pv 0)) (gp_k T.g_TIES rfl) (fun _ _ => rfl)))) (blkOk_by (own := [("tie", 2)]) (N := ["trust", "actor", "tie"]) (sc := defScope s_givers_to) (by decide +kernel)) (fun _ _ _ _ _ => (pg_name (i := 2) sc_givers_to.nd rfl (Or.inl rfl))) (fun _ _ _ _ _ => (gt_cmpP (opx_eq hr.units) (gp_ix ixx (gp_var (pv 2)) gp_int (fun _ _ => rfl)) (gp_var (pv 1)) (nomark _))) (fun _ _ _ _ _ => (GE.of_pure (gp_ix ixx (gp_var (pv 2)) gp_int (fun _ _ => rfl)))) (by decide) (mem1 rfl) (mem1 (Nat.le_of_ble_eq_true rfl))))), fun ds Q ⟨oo, ts, xs, a, e, tr, ha, q⟩ => ?_⟩
  subst e
  have htl := tr.tl
  refine x_start (e := [some (.f (.tup [.str oo, .tup (ts.map Ti.d), .tup (xs.map Wi.d)])), some (.f (.str a)), none]) rfl ?_
  walk_at "x"
  refine ⟨fun i acc e => acc = ((ts.take i).filter (tiedT a)).map (·.a) ∧ ∃ x2, e = [some (.f (.tup [.str oo, .tup (ts.map Ti.d), .tup (xs.map Wi.d)])), some (.f (.str a)), x2], ⟨rfl, _, rfl⟩, ?_, ?_⟩
  · rintro i d acc e hd ⟨rfl, x2, rfl⟩
    rw [List.getElem?_map] at hd
    obtain ⟨t, ht, rfl⟩ := Option.map_eq_some_iff.mp hd
    have tok := tr.hts t (List.mem_of_getElem? ht)
    have tkl : (((ts.take i).filter (tiedT a)).map (·.a)).length < 1000 := by
      rw [List.length_map]
      have h1 := List.length_filter_le (tiedT a) (ts.take i)
      rw [List.length_take] at h1
      omega
    refine ⟨_, rfl, ?_⟩
    dsimp only [List.map_cons, List.map_nil, wipeE, setE, Tgt.js, List.set_cons_zero, List.set_cons_succ]
    rw [show t.d = .tup [.str t.a, .str t.b, .int t.s, .int t.u] from rfl]
    walk_at "x"
    refine x_eqD (okPy_str (name_cp tok.b)) (okPy_str ha) ?_
    rw [eq_strs]
    cases hc : t.b == a with
    | true =>
      walk_at "x"
      refine ⟨tkl, ?_, _, rfl⟩
      rw [take_snoc ht, List.filter_append, List.filter_cons_of_pos (show tiedT a t = true from hc), List.filter_nil, List.map_append]
      rfl
    | false =>
      walk_at "x"
      exact ⟨by rw [take_snoc ht, List.filter_append, List.filter_cons_of_neg (by rw [show tiedT a t = false from hc]; decide), List.filter_nil, List.append_nil], _, rfl⟩
  rintro acc e ⟨rfl, x2, rfl⟩
  rw [show (ts.map Ti.d).length = ts.length from List.length_map .., List.take_length]
  try dsimp only [List.map_cons, List.map_nil, wipeE, List.set_cons_zero, List.set_cons_succ]
  refine ⟨by rw [List.length_map]; exact Nat.lt_of_le_of_lt (List.length_filter_le ..) (by omega), fun ys nd so mm => ?_⟩
  walk_at "x"
  exact q ys (tied_of nd so mm)
theorem x_lenD {cs : Case} {Q : D → Prop} (h : Q (.int (cs.length : Nat))) : cLen [cD cs] Q := by
  show Q (.int (((cP cs).map (·.2)).length : Nat))
  rw [vals_case, List.length_map, List.length_map]
  exact h
def wFull : WFn := fun ds Q => ∃ (oo : Str) (ts : List Ti) (xs : List Wi) (most : Option Int) (cs : Case), ds = [trustD oo ts xs, mostD most, cD cs] ∧ TrOk oo ts xs ∧ CsOk cs ∧ Q (.f (.bl (fullV oo xs most cs)))
theorem mono_is_full : MonoF wFull := fun ds Q Q' i ⟨oo, ts, xs, most, cs, h1, h2, h3, q⟩ => ⟨oo, ts, xs, most, cs, h1, h2, h3, i _ q⟩
theorem ok_full (T : Txt K mg) (c_next_actor : Cal P w K mg base 1 "next_actor" (spW K tabs (liftF wNextA))) (A : At K mg "is_full" s_is_full ["trust", "most", "settled"]) : Cal P w K mg base 2 "is_full" (spW K tabs (liftF wFull)) := by
  refine A.of fun f fd F => fx_fnF F sc_is_full (fun ds Q ⟨_, _, _, _, _, h, _⟩ => by rw [h]; rfl) fun cdv A outer s H E TT P0 σ0 hcd hr => ⟨_, (gss_one (gs_ret (ge_and (GE.of_pure (gp_cmp opx_notN (gp_var (pv 1)) gp_non (nomark _))) (ge_and (ge_cmp opx_ge (ge_cbB1 cax_len (by rfl) T.z_len (by decide +kernel) (pv 2)) (GE.of_pure (gp_var (pv 1))) (nomark _)) (ge_one (ge_cmp opx_notN (ge_callF c_next_actor hr (by first | decide | omega) rfl rfl rfl mono_next_actor (gd_cons (GE.of_pure (gp_var (pv 0))) (gd_cons (GE.of_pure (gp_var (pv 2))) gd_nil))) (GE.of_pure gp_non) (nomark _))))))), fun ds Q ⟨oo, ts, xs, most, cs, e, tr, ok, q⟩ => ?_⟩
  subst e
  refine x_start (e := [some (.f (.tup [.str oo, .tup (ts.map Ti.d), .tup (xs.map Wi.d)])), some (.f (mostD most)), some (.f (cD cs))]) rfl ?_
  cases most with
  | none =>
    dsimp only [mostD]
    walk_at "x"
    exact q
  | some m =>
    dsimp only [mostD]
    walk_at "x"
    refine x_lenD ?_
    walk_at "x"
    refine x_ite (fun h3 => ?_) (fun h3 => ?_)
    · walk_at "x"
      refine ⟨oo, ts, xs, cs, rfl, tr, ok, ?_⟩
      cases hn : nextV oo xs cs with
      | none =>
        dsimp only [strO]
        walk_at "x"
        rw [show fullV oo xs (some m) cs = (decide ((cs.length : Int) ≥ m) && (nextV oo xs cs).isSome) from rfl, hn] at q
        simpa using q
      | some y =>
        dsimp only [strO]
        walk_at "x"
        rw [show fullV oo xs (some m) cs = (decide ((cs.length : Int) ≥ m) && (nextV oo xs cs).isSome) from rfl, hn, h3] at q
        exact q
    · walk_at "x"
      rw [show fullV oo xs (some m) cs = (decide ((cs.length : Int) ≥ m) && (nextV oo xs cs).isSome) from rfl, h3] at q
      exact q

end
end K85

namespace K85
open PySem PySem.Spec PyProof.Rows L2 Lk Evl Fx
local macro_rules | `(tactic| walk_at "sz") => `(tactic| first
  | exact Nat.le_of_ble_eq_true rfl
  | assumption
  | exact small_sz (Nat.le_of_ble_eq_true rfl)
  | (simp only [List.length_cons, List.length_nil, List.length_map, List.length_append]; first | omega | exact small_sz (by omega)))
local macro_rules | `(tactic| walk_at "x1") => `(tactic| first
  | with_reducible refine x_seq ?_
  | (with_reducible show wVar _ _ _); first | refine x_varF rfl ?_ | refine x_varO rfl ?_ | refine x_varV rfl ?_
  | with_reducible refine x_c ?_
  | with_reducible refine x_exf ?_
  | with_reducible refine x_excd ?_
  | (with_reducible show ∃ d1, Sl.cd (Sl.vw _) = some d1 ∧ _); refine x_excV rfl ?_
  | (with_reducible show ∃ d1, Sl.cd (Sl.own _) = some d1 ∧ _); refine x_excO rfl ?_
  | with_reducible refine x_binP ?_
  | with_reducible refine x_bin ?_
  | with_reducible refine x_adC ?_
  | with_reducible refine x_adN ?_
  | with_reducible refine x_lst ?_
  | with_reducible refine x_tup ?_
  | with_reducible refine x_lstO ?_
  | (with_reducible refine x_and (p := _ ≤ sizeLine) ?h ?_); (case h => walk_at "sz")
  | with_reducible refine x_callF ?_
  | with_reducible refine x_callL ?_
  | with_reducible refine x_listO ?_
  | with_reducible refine x_dstar ?_
  | with_reducible refine x_getN ?_
  | with_reducible refine x_ss ?_
  | with_reducible refine x_mulO ?_
  | with_reducible refine x_iZM ?_
  | with_reducible refine x_maxD ?_
  | with_reducible refine x_dictD ?_
  | (with_reducible show wCallU _ _ _ _ _); refine x_callU rfl ?_
  | with_reducible refine x_callV ?_
  | with_reducible refine x_join ?_
  | with_reducible refine x_waD ?_
  | with_reducible refine x_lc ?_
  | with_reducible refine x_lc2 ?_
  | with_reducible refine x_lenSets ?_
  | (with_reducible show wApp _ _ _ _); refine x_app rfl ?_
  | (with_reducible show wBinV _ _ _ _ _); refine x_binV rfl ?_
  | (with_reducible show wPopD _ _ _ _); refine x_popD rfl ?_
  | (with_reducible show wCatV _ _ _ _); refine x_catV rfl ?_
  | with_reducible refine x_slN2 ?_
  | with_reducible refine x_sortedSets ?_
  | with_reducible refine x_tplL ?_
  | with_reducible refine x_tplT ?_
  | with_reducible refine x_isB ?_
  | with_reducible refine x_r1 ?_
  | with_reducible refine x_r2 ?_
  | (with_reducible refine x_r1e ?h0 ?h1 ?_); (case h0 => omega); (case h1 => omega)
  | with_reducible refine x_iL ?_
  | with_reducible refine x_iT ?_
  | with_reducible refine x_iS ?_
  | with_reducible refine x_iE ?_
  | with_reducible refine x_iEe ?_
  | with_reducible refine x_yes ?_
  | with_reducible refine x_for ?_
  | (with_reducible show wLot _ [D.int _] _); (refine' x_lot (by assumption) ?h1 ?h2 ?h3 ?_); (case h1 => omega); (case h2 => first | decide | omega); (case h3 => first | decide | omega)
  | (with_reducible show ∃ o, _ = some (some (Sl.own o)) ∧ _); refine x_exO rfl ?_
  | with_reducible refine x_exo ?_
  | with_reducible refine x_ret ?_
  | with_reducible refine x_set ?_
  | with_reducible refine x_fin ?_
  | with_reducible refine x_fino ?_
  | (with_reducible refine x_and (p := _ < List.length _) ?h ?_); (case h => exact Nat.le_of_ble_eq_true rfl); (try dsimp only [List.set_cons_succ, List.set_cons_zero])
  | with_reducible refine x_next ?_
  | with_reducible refine x_retN ?_
  | with_reducible refine x_drop ?_
  | with_reducible refine x_asg ?_
  | (with_reducible refine x_gtp ?h ?_); (case h => rfl)
  | with_reducible refine x_gcons ?_
  | with_reducible refine x_gnil ?_
  | (with_reducible refine x_gn ?h ?_); (case h => exact Nat.le_of_ble_eq_true rfl); (try dsimp only [List.set_cons_succ, List.set_cons_zero])
  | with_reducible refine x_ifS ?_
  | with_reducible refine x_if ?_
  | with_reducible refine x_itT ?_
  | with_reducible refine x_itF ?_
  | with_reducible refine x_iteN ?_
  | with_reducible refine x_tru ?_
  | with_reducible refine x_tB ?_
  | with_reducible refine x_dtB ?_
  | with_reducible refine x_dtN ?_
  | with_reducible refine x_exb ?_
  | with_reducible refine x_exdb ?_
  | with_reducible refine x_tand ?_
  | with_reducible refine x_tor ?_
  | with_reducible refine x_tnot ?_
  | with_reducible refine x_and2 ?_
  | with_reducible refine x_or2 ?_
  | with_reducible refine x_not2 ?_
  | with_reducible refine x_chain ?_
  | with_reducible refine x_sub ?_
  | with_reducible refine x_addI ?_
  | (with_reducible refine x_addS ?h ?_); (case h => walk_at "sz")
  | (with_reducible refine x_addL ?h ?_); (case h => walk_at "sz")
  | (with_reducible refine x_addT ?h ?_); (case h => walk_at "sz")
  | with_reducible refine x_lt ?_
  | with_reducible refine x_le ?_
  | with_reducible refine x_gt ?_
  | with_reducible refine x_ge ?_
  | with_reducible refine x_ltS ?_
  | with_reducible refine x_eqI ?_
  | with_reducible refine x_neI ?_
  | with_reducible refine x_allSg ?_
  | with_reducible refine x_m0 ?_
  | with_reducible refine x_lstT ?_
  | with_reducible refine x_lstL ?_
  | with_reducible refine x_strB ?_
  | with_reducible refine x_strN ?_
  | with_reducible refine x_strS ?_
  | with_reducible refine x_isT ?_
  | with_reducible refine x_isI ?_
  | with_reducible refine x_neg ?_
  | with_reducible refine x_un ?_
  | (with_reducible refine x_pow ?h ?_); (case h => exact ⟨by decide, by decide +kernel⟩)
  | (with_reducible refine x_mod ?h ?_); (case h => first | decide | omega)
  | (with_reducible refine x_mul ?h ?_); (case h => exact mul_ok (by first | decide | omega) (by first | decide | omega))
  | (with_reducible refine x_div ?h ?_); (case h => exact div_ok (by first | decide | omega) (by first | decide | omega))
  | with_reducible refine x_ipA ?_
  | (with_reducible show wAugL _ _ _ _ _ _); refine x_augL rfl ?_
  | (with_reducible show wAug _ _ _ _ _); refine x_aug rfl ?_
  | (with_reducible show ∃ k' ds d, Sl.f (D.int _) = Sl.f (D.int k') ∧ _); refine x_augL1 rfl (by decide) rfl ?_
  | (with_reducible show ∃ k' j ds, Sl.f (D.int _) = Sl.f (D.int k') ∧ _ = some (some (Sl.own (O.lst ds))) ∧ ixN _ k' = some j ∧ _); refine x_setL1 rfl rfl ?_; (try dsimp only [List.set_cons_succ, List.set_cons_zero])
  | (with_reducible show ∃ ds j, _ = some (some (Sl.own (O.lst ds))) ∧ ixN _ _ = some j ∧ _); refine x_augL2 rfl rfl ?_; (try dsimp only [List.set_cons_succ, List.set_cons_zero])
  | (with_reducible show gSetL _ _ _ _ _); refine x_setL rfl ?_
  | (with_reducible show dIx (D.lst _) (D.int _) _); refine x_ixL rfl ?_
  | (with_reducible show dIx (D.tup _) (D.int _) _); refine x_ixT rfl ?_
  | with_reducible refine x_cb ?_
  | (with_reducible show wCB1 _ _ _ _); refine x_cb1 rfl rfl ?_
  | with_reducible refine x_fm ?_
  | with_reducible refine x_exl ?_
  | with_reducible refine x_ext ?_
  | with_reducible refine x_exs ?_
  | with_reducible refine x_exi ?_
  | with_reducible refine x_sl ?_
  | with_reducible refine x_slN ?_
  | with_reducible refine x_slS ?_
  | with_reducible refine x_frz ?_
  | with_reducible refine x_frL ?_
  | with_reducible refine x_revT ?_
  | with_reducible refine x_revL ?_
  | with_reducible refine x_splitO ?_
  | (with_reducible show wSlO _ _ _ _ _); refine x_slO rfl ?_
  | (with_reducible show ∃ ds2, _ = some (some (Sl.own (O.lst ds2))) ∧ _); refine x_exOl rfl ?_
  | with_reducible refine x_dictO ?_
  | with_reducible refine x_psC ?_
  | with_reducible refine x_psN ?_
  | with_reducible refine x_get ?_
  | (with_reducible show gSetSl _ _ _ _ _ _); refine x_setSl rfl ?_
  | with_reducible refine x_split ?_
  | with_reducible refine x_isN1 ?_
  | with_reducible refine x_isN0 rfl ?_
  | with_reducible refine x_iZ ?_
  | with_reducible refine x_zT ?_
  | with_reducible refine x_zL ?_
  | with_reducible refine x_stp ?_
  | with_reducible refine x_js ?_
  | with_reducible refine x_jsC ?_
  | with_reducible refine x_jsN ?_
  | with_reducible refine x_fmt ?_
  | with_reducible refine x_callFX ?_
  | (with_reducible refine x_glp ?h ?_); (case h => rfl)
  | with_reducible refine x_raiseR ?_
  | with_reducible refine x_row ?_
  | with_reducible refine x_lenL ?_
  | with_reducible refine x_lenT ?_
  | with_reducible refine x_lenD ?_
  | (with_reducible refine x_lenS ?h ?_); (case h => walk_at "sz")
  | with_reducible refine x_max ?_
  | with_reducible refine x_min ?_
  | with_reducible refine x_intI ?_
  | with_reducible refine x_intB ?_
  | (with_reducible refine x_isInt ?h ?_); (case h => first | assumption | exact part_ty (by assumption) | (intro _ hh; cases hh; done))
  | (with_reducible refine x_isBl ?h ?_); (case h => first | assumption | exact part_ty (by assumption) | (intro _ hh; cases hh; done))
  | (with_reducible refine x_isStr ?h ?_); (case h => first | assumption | exact part_ty (by assumption) | (intro _ hh; cases hh; done))
  | (with_reducible refine x_isTup ?h ?_); (case h => first | assumption | exact part_ty (by assumption) | (intro _ hh; cases hh; done))
  | (with_reducible refine x_isLst ?h ?_); (case h => first | assumption | exact part_ty (by assumption) | (intro _ hh; cases hh; done))
  | (with_reducible refine x_isDic ?h ?_); (case h => first | assumption | exact part_ty (by assumption) | (intro _ hh; cases hh; done))
  | (with_reducible refine x_itTe ?e ?_); (case e => rfl)
  | (with_reducible refine x_itFe ?e ?_); (case e => rfl)
  | with_reducible refine x_dnewO ?_
  | with_reducible refine x_dput ?_
  | with_reducible refine x_dix ?_
  | with_reducible refine x_sortedD ?_
  | with_reducible refine x_star ?_
  | with_reducible refine x_starT ?_
  | with_reducible refine x_frzD ?_
  | with_reducible refine x_sw ?_
  | with_reducible refine x_cnt ?_
  | with_reducible refine x_waC ?_
  | with_reducible refine x_waN ?_
  | with_reducible refine x_lenDD ?_
  | with_reducible refine x_allX ?_
  | (with_reducible show wFz _ _ _ _); refine x_fz rfl ?_
  | (with_reducible show wFzS _ _ _ _); refine x_fzS rfl ?_
  | (with_reducible show wFzO _ _ _ _); refine x_fzO rfl ?_
  | (with_reducible show wiK _ _ _); refine x_iK rfl ?_
  | (with_reducible show wiIt _ _ _); refine x_iIt rfl ?_
  | with_reducible refine x_iE1 ?_
  | with_reducible refine x_forR ?_
  | (with_reducible show wDIxV _ _ _ _); refine x_dixV rfl (cd_dicO _) ?_
  | (with_reducible show wDPop _ _ _ _); refine x_dpop rfl ?_
  | with_reducible refine x_pickO ?_
  | (with_reducible show wExt _ _ _ _); refine x_extO rfl ?_
  | with_reducible refine x_sortedR ?_
  | with_reducible refine x_sortedL ?_
  | with_reducible refine x_ixSt ?_
  | (with_reducible show wiVal _ _ _); refine x_iVal rfl ?_
  | with_reducible refine x_dictP ?_
  | with_reducible refine x_dictZip ?_
  | with_reducible refine x_revS ?_
  | with_reducible refine x_par ?_
  | (with_reducible show wIsiV _ _ _ _ _); refine x_isiV rfl ?_
  | ((with_reducible show _ ∧ _); refine And.intro (Nat.le_of_ble_eq_true rfl) ?_))
local macro_rules | `(tactic| walk_at "x") => `(tactic| repeat (walk_at "x1"))


section
variable {P : Program} {w : World} {K : PySem.W.Frag} {mg : Str → Option Value} {base : Heap} {tabs : List Addr}
/-! ### the program: what bars -/
/-! ### the program: trees judged -/
structure Wd (oo : Str) (ns : List Str) (ts : List Ti) (xs : List Wi) : Prop where
  tr : TrOk oo ts xs
  am : Among (oo :: ns) ts xs
  nl : ns.length ≤ 6
structure CsIn (oo : Str) (ns : List Str) (cs : Case) : Prop where
  ok : CsOk cs
  k : ∀ p ∈ cs, p.1 ∈ ns
  v : ∀ p ∈ cs, p.2 ∈ oo :: ns
theorem csIn_nil (oo : Str) (ns : List Str) : CsIn oo ns [] := ⟨⟨.nil, nofun, nofun, by decide⟩, nofun, nofun⟩
theorem csIn_snoc {oo : Str} {ns : List Str} {ts : List Ti} {xs : List Wi} {cs : Case} {a g : Str} (w : Wd oo ns ts xs) (c : CsIn oo ns cs) (hn : nextV oo xs cs = some a) (hg : ∃ t ∈ ts, t.b = a ∧ t.a = g) : CsIn oo ns (cs ++ [(a, g)]) := by
  obtain ⟨an, ak⟩ := next_new hn
  have am : a ∈ ns := by
    have : a ∈ xs.map (·.a) ++ cs.map (·.2) := List.mem_of_find?_eq_some hn
    rcases List.mem_append.mp this with h | h
    · obtain ⟨x, hx, rfl⟩ := List.mem_map.mp h
      exact (List.mem_cons.mp (w.am.2 x hx)).resolve_left an
    · obtain ⟨p, hp, rfl⟩ := List.mem_map.mp h
      exact (List.mem_cons.mp (c.v p hp)).resolve_left an
  obtain ⟨t, ht, tb, ta⟩ := hg
  have mem2 : ∀ {P : Str × Str → Prop}, (∀ p ∈ cs, P p) → P (a, g) → ∀ p ∈ cs ++ [(a, g)], P p := fun h1 h2 p hp => by
    rcases List.mem_append.mp hp with hp | hp
    · exact h1 p hp
    · rw [List.mem_singleton.mp hp]; exact h2
  have nd : ((cs ++ [(a, g)]).map (·.1)).Nodup := by
    rw [List.map_append, List.nodup_append]
    exact ⟨c.ok.nd, List.nodup_cons.mpr ⟨nofun, .nil⟩, fun x hx y hy e => ak (by have e2 : y = a := List.mem_singleton.mp hy; rw [← e2, ← e]; exact hx)⟩
  have k2 := mem2 (P := fun p => p.1 ∈ ns) c.k am
  have len : (cs ++ [(a, g)]).length ≤ 6 := by
    have := nodup_le (l := (cs ++ [(a, g)]).map (·.1)) (m := ns) nd fun z hz => by
      obtain ⟨p, hp, rfl⟩ := List.mem_map.mp hz
      exact k2 p hp
    rw [List.length_map] at this
    exact Nat.le_trans this w.nl
  exact ⟨⟨nd, mem2 c.ok.a (next_name w.tr c.ok hn), mem2 c.ok.b (by rw [← ta]; exact (w.tr.hts t ht).a), len⟩, k2, mem2 c.v (by rw [← ta]; exact (w.am.1 t ht).1)⟩
/-! ### the program: going on -/
theorem dicO_snoc (cs : Case) (a g : Str) : O.dic ((cP cs).map (·.1) ++ [.inr a]) ((((cP cs).map fun p : Key × D => p.2) ++ [D.str g]).map O.f) = dicO (cP (cs ++ [(a, g)])) := by
  unfold cP dicO
  rw [List.map_append, List.map_append, List.map_append, List.map_append]
  simp only [List.map_map]
  rfl
end
section
variable {P : Program} {w : World} {K : PySem.W.Frag} {mg : Str → Option Value} {base : Heap} {tabs : List Addr}
/-! ### the program: what bars a case, the least plan's search -/
def isNon : D → Bool
  | .non => true
  | _ => false
noncomputable def findF (ts : List Ti) (xs : List Wi) (cs : Case) : Case → D
  | [] => .non
  | p :: r => if ringV cs p.1 = true then .tup [.str "ring", .str p.1] else if timeV ts xs cs p.1 p.2 = true then .tup [.str "time", .str p.1] else findF ts xs cs r
noncomputable def barF (oo : Str) (ts : List Ti) (xs : List Wi) (most : Option Int) (cs : Case) : D := if fullV oo xs most cs = true then .tup [.str "many"] else findF ts xs cs cs
def wFindB : WFn := fun ds Q => ∃ (oo : Str) (ts : List Ti) (xs : List Wi) (most : Option Int) (cs : Case), ds = [trustD oo ts xs, mostD most, cD cs] ∧ TrOk oo ts xs ∧ CsOk cs ∧ Q (.f (barF oo ts xs most cs))
theorem mono_find_bar : MonoF wFindB := fun ds Q Q' i ⟨oo, ts, xs, most, cs, h1, h2, h3, q⟩ => ⟨oo, ts, xs, most, cs, h1, h2, h3, i _ q⟩
theorem case_at {cs : Case} {i : Nat} {d : D} (h : (((cP cs).map (·.1)).map keyD)[i]? = some d) : ∃ p, cs[i]? = some p ∧ d = .str p.1 := by
  unfold cP at h
  rw [List.getElem?_map, List.getElem?_map, List.getElem?_map] at h
  cases e : cs[i]? with
  | none => rw [e] at h; cases h
  | some p => rw [e] at h; exact ⟨p, rfl, (Option.some.inj h).symm⟩
theorem ok_find_bar (T : Txt K mg) (c_is_full : Cal P w K mg base 2 "is_full" (spW K tabs (liftF wFull))) (c_is_in_ring : Cal P w K mg base 2 "is_in_ring" (spW K tabs (liftF wRing))) (c_lacks_time : Cal P w K mg base 2 "lacks_time" (spW K tabs (liftF wLacks)))
    (A : At K mg "find_bar" s_find_bar ["trust", "most", "settled"]) : Cal P w K mg base 3 "find_bar" (spW K tabs (liftF wFindB)) := by
  refine A.of fun f fd F => fx_fnF F sc_find_bar (fun ds Q ⟨_, _, _, _, _, h, _⟩ => by rw [h]; rfl) fun cdv A outer s H E TT P0 σ0 hcd hr => ⟨_, (gss_cons (gs_if (gt_tru (ge_callF c_is_full hr (by first | decide | omega) rfl rfl rfl mono_is_full (gd_cons (GE.of_pure (gp_var (pv 0))) (gd_cons (GE.of_pure (gp_var (pv 1))) (gd_cons (GE.of_pure (gp_var (pv 2))) gd_nil)))))
      (gss_one (gs_ret (ge_tupD (gd_cons (GE.of_pure gp_str) gd_nil))))
      gss_nil)
      (gss_cons (gs_forK (i := 2) (pv 2) (fun Tz Hz Pz σz => (gg_name (pg_name (i := 3) sc_find_bar.nd rfl (Or.inl rfl)) rfl)) (fun Tz Hz Pz σz =>
      (gss_cons (gs_if (gt_tru (ge_callF c_is_in_ring hr (by first | decide | omega) rfl rfl rfl mono_is_in_ring (gd_cons (GE.of_pure (gp_var (pv 2))) (gd_cons (GE.of_pure (gp_var (pv 3))) gd_nil))))
      (gss_one (gs_ret (ge_tupD (gd_cons (GE.of_pure gp_str) (gd_cons (GE.of_pure (gp_var (pv 3))) gd_nil)))))
      gss_nil)
      (gss_one (gs_if (gt_tru (ge_callF c_lacks_time hr (by first | decide | omega) rfl rfl rfl mono_lacks_time (gd_cons (GE.of_pure (gp_var (pv 0))) (gd_cons (GE.of_pure (gp_var (pv 2))) (gd_cons (GE.of_pure (gp_var (pv 3))) gd_nil)))))
      (gss_one (gs_ret (ge_tupD (gd_cons (GE.of_pure gp_str) (gd_cons (GE.of_pure (gp_var (pv 3))) gd_nil)))))
      gss_nil)))) PassesOwn.never rfl)
      (gss_one (gs_ret (GE.of_pure gp_non))))), fun ds Q ⟨oo, ts, xs, most, cs, e, tr, ok, q⟩ => ?_⟩
  subst e
  refine x_start (e := [some (.f (.tup [.str oo, .tup (ts.map Ti.d), .tup (xs.map Wi.d)])), some (.f (mostD most)), some (.f (cD cs)), none]) rfl ?_
  walk_at "x"
  refine ⟨oo, ts, xs, most, cs, rfl, tr, ok, ?_⟩
  unfold barF at q
  cases hf : fullV oo xs most cs with
  | true =>
    rw [hf, if_pos rfl] at q
    walk_at "x"
    exact q
  | false =>
    rw [hf, if_neg Bool.false_ne_true] at q
    walk_at "x"
    refine ⟨fun i e => findF ts xs cs (cs.drop i) = findF ts xs cs cs ∧ ∃ x3, e = [some (.f (.tup [.str oo, .tup (ts.map Ti.d), .tup (xs.map Wi.d)])), some (.f (mostD most)), some (.f (cD cs)), x3], ⟨rfl, _, rfl⟩, ?_, ?_⟩
    · rintro i d e hd ⟨hi, x3, rfl⟩
      obtain ⟨p, hp, rfl⟩ := case_at hd
      have hm := List.mem_of_getElem? hp
      have pk : PyData.strOk p.1 = true := name_cp (ok.a p hm)
      have lk : look cs p.1 = some p.2 := look_of ok.nd hm
      have step : findF ts xs cs (cs.drop i) = if ringV cs p.1 = true then .tup [.str "ring", .str p.1] else if timeV ts xs cs p.1 p.2 = true then .tup [.str "time", .str p.1] else findF ts xs cs (cs.drop (i + 1)) := by
        obtain ⟨hl, rfl⟩ := List.getElem?_eq_some_iff.mp hp
        rw [List.drop_eq_getElem_cons hl]
        rfl
      walk_at "x"
      refine ⟨cs, p.1, rfl, ok, pk, ?_⟩
      cases hr1 : ringV cs p.1 with
      | true =>
        rw [hr1, if_pos rfl] at step
        walk_at "x"
        rw [← step, hi]
        exact q
      | false =>
        rw [hr1, if_neg Bool.false_ne_true] at step
        walk_at "x"
        refine ⟨oo, ts, xs, cs, p.1, p.2, rfl, tr, ok, lk, ?_⟩
        cases ht : timeV ts xs cs p.1 p.2 with
        | true =>
          rw [ht, if_pos rfl] at step
          walk_at "x"
          rw [← step, hi]
          exact q
        | false =>
          rw [ht, if_neg Bool.false_ne_true] at step
          walk_at "x"
          exact ⟨step ▸ hi, _, rfl⟩
    · rintro e ⟨hi, x3, rfl⟩
      walk_at "x"
      rw [show findF ts xs cs cs = .non by rw [← hi, List.drop_eq_nil_of_le (by unfold cP; simp)]; rfl] at q
      exact q

/-! ### the program: the search for a case that nothing bars -/
noncomputable def tiedL (ts : List Ti) (a : Str) : List Str := @dite _ (∃ ys, IsTied ts a ys) (Classical.propDecidable _) (fun h => h.choose) fun _ => []
theorem tiedL_eq {ts : List Ti} {a : Str} {ys : List Str} (h : IsTied ts a ys) : tiedL ts a = ys := by
  have ex : ∃ ys, IsTied ts a ys := ⟨ys, h⟩
  unfold tiedL
  rw [dif_pos ex]
  exact tied_uniq ex.choose_spec h
noncomputable def openV (oo : Str) (ts : List Ti) (xs : List Wi) (most : Option Int) : Nat → Case → Option Case
  | 0, _ => none
  | n + 1, cs => if isNon (barF oo ts xs most cs) = true then (match nextV oo xs cs with
    | none => some cs
    | some a => (tiedL ts a).findSome? fun g => openV oo ts xs most n (cs ++ [(a, g)])) else none
def caseO : Option Case → D
  | none => .non
  | some cs => cD cs
def wOpen : Nat → WFn
  | 0, _, _ => False
  | N + 1, ds, Q => ∃ (oo : Str) (ns : List Str) (ts : List Ti) (xs : List Wi) (most : Option Int) (cs : Case) (n : Nat), ds = [trustD oo ts xs, mostD most, cD cs] ∧ n ≤ N ∧ Wd oo ns ts xs ∧ CsIn oo ns cs ∧ ns.length ≤ cs.length + n ∧ Q (.f (caseO (openV oo ts xs most (n + 1) cs)))
theorem mono__find_open : ∀ {n : Nat}, MonoF (wOpen n)
  | 0 => fun _ _ _ _ h => h
  | n + 1 => fun ds Q Q' i ⟨oo, ns, ts, xs, most, cs, n0, h1, h2, h3, h4, h5, q⟩ => ⟨oo, ns, ts, xs, most, cs, n0, h1, h2, h3, h4, h5, i _ q⟩
theorem next_room {oo : Str} {ns : List Str} {ts : List Ti} {xs : List Wi} {cs : Case} {a : Str} (w : Wd oo ns ts xs) (c : CsIn oo ns cs) (hn : nextV oo xs cs = some a) : cs.length < ns.length := by
  obtain ⟨an, ak⟩ := next_new hn
  have am : a ∈ ns := by
    have : a ∈ xs.map (·.a) ++ cs.map (·.2) := List.mem_of_find?_eq_some hn
    rcases List.mem_append.mp this with h | h
    · obtain ⟨x, hx, rfl⟩ := List.mem_map.mp h
      exact (List.mem_cons.mp (w.am.2 x hx)).resolve_left an
    · obtain ⟨p, hp, rfl⟩ := List.mem_map.mp h
      exact (List.mem_cons.mp (c.v p hp)).resolve_left an
  have := nodup_le (l := a :: cs.map (·.1)) (m := ns) (List.nodup_cons.mpr ⟨ak, c.ok.nd⟩) fun z hz => by
    rcases List.mem_cons.mp hz with rfl | hz
    · exact am
    · obtain ⟨p, hp, rfl⟩ := List.mem_map.mp hz
      exact c.k p hp
  rw [List.length_cons, List.length_map] at this
  exact this
theorem findF_leaf {ts : List Ti} {xs : List Wi} {cs : Case} : ∀ {r : Case}, (∀ p ∈ r, PyData.strOk p.1 = true) → findF ts xs cs r = .non ∨ Leaf79 (findF ts xs cs r)
  | [], _ => .inl rfl
  | p :: r, h => by
    unfold findF
    split
    · exact .inr (.inr ⟨p.1, h p (List.mem_cons_self ..), .inl rfl⟩)
    · split
      · exact .inr (.inr ⟨p.1, h p (List.mem_cons_self ..), .inr rfl⟩)
      · exact findF_leaf fun p hp => h p (List.mem_cons_of_mem _ hp)
theorem barF_leaf {oo : Str} {ts : List Ti} {xs : List Wi} {most : Option Int} {cs : Case} (ok : CsOk cs) : barF oo ts xs most cs = .non ∨ Leaf79 (barF oo ts xs most cs) := by
  unfold barF
  split
  · exact .inr (.inl rfl)
  · exact findF_leaf fun p hp => name_cp (ok.a p hp)
theorem ok_open0 (k : Nat) (A : At K mg "_find_open" s__find_open ["trust", "most", "settled"]) : Cal P w K mg base (k + 1) "_find_open" (spW K tabs (liftF (wOpen 0))) := by
  refine A.of fun f fd F => fx_fnF F sc__find_open (fun ds Q h => h.elim) fun cdv A outer s H E TT P0 σ0 hcd hr => ⟨fun _ _ => False, ⟨⟨fun pins s σ H D I ⟨_, _, _, _, h⟩ => h.elim⟩, fun _ _ _ _ h => h⟩, fun ds Q h => h⟩
theorem ok_open {N k : Nat} (hk : 3 ≤ k) (T : Txt K mg) (c__find_open : Cal P w K mg base k "_find_open" (spW K tabs (liftF (wOpen N)))) (c_find_bar : Cal P w K mg base 3 "find_bar" (spW K tabs (liftF wFindB))) (c_next_actor : Cal P w K mg base 1 "next_actor" (spW K tabs (liftF wNextA))) (c_givers_to : Cal P w K mg base 1 "givers_to" (spW K tabs (liftF wGivers)))
    (A : At K mg "_find_open" s__find_open ["trust", "most", "settled"]) : Cal P w K mg base (k + 1) "_find_open" (spW K tabs (liftF (wOpen (N + 1)))) := by
  refine A.of fun f fd F => fx_fnF F sc__find_open (fun ds Q ⟨_, _, _, _, _, _, _, h, _⟩ => by rw [h]; rfl) fun cdv A outer s H E TT P0 σ0 hcd hr => ⟨_, (gss_cons (gs_if (gt_cmp opx_notN (ge_callF c_find_bar hr (by first | decide | omega) rfl rfl rfl mono_find_bar (gd_cons (GE.of_pure (gp_var (pv 0))) (gd_cons (GE.of_pure (gp_var (pv 1))) (gd_cons (GE.of_pure (gp_var (pv 2))) gd_nil)))) (GE.of_pure gp_non) (nomark _))
      (gss_one (gs_ret (GE.of_pure gp_non)))
      gss_nil)
      (gss_cons (gs_setE (i := 3) sc__find_open.nd rfl (Or.inl rfl) (ge_callF c_next_actor hr (by first | decide | omega) rfl rfl rfl mono_next_actor (gd_cons (GE.of_pure (gp_var (pv 0))) (gd_cons (GE.of_pure (gp_var (pv 2))) gd_nil))))
      (gss_cons (gs_if (gt_cmpP opx_isN (gp_var (pv 3)) gp_non (nomark _))
      (gss_one (gs_ret (GE.of_pure (gp_var (pv 2)))))
      gss_nil)
      (gss_cons (gs_for PassesOwn.never rfl (gi_list (ge_callF c_givers_to hr (by first | decide | omega) rfl rfl rfl mono_givers_to (gd_cons (GE.of_pure (gp_var (pv 0))) (gd_cons (GE.of_pure (gp_var (pv 3))) gd_nil)))) (gg_name (pg_name (i := 4) sc__find_open.nd rfl (Or.inl rfl)) rfl)
      (gss_cons (gs_setE (i := 5) sc__find_open.nd rfl (Or.inl rfl) (ge_callF c__find_open hr (by first | decide | omega) rfl rfl rfl mono__find_open (gd_cons (GE.of_pure (gp_var (pv 0))) (gd_cons (GE.of_pure (gp_var (pv 1))) (gd_cons (ge_frz (ge_star (GE.of_pure (gp_var (pv 2))) (GE.of_pure (gp_var (pv 3))) (GE.of_pure (gp_var (pv 4))))) gd_nil)))))
      (gss_one (gs_if (gt_cmpP opx_notN (gp_var (pv 5)) gp_non (nomark _))
      (gss_one (gs_ret (GE.of_pure (gp_var (pv 5)))))
      gss_nil))))
      (gss_one (gs_ret (GE.of_pure gp_non))))))), fun ds Q ⟨oo, ns, ts, xs, most, cs, n, e, hN, wd, ci, room, q⟩ => ?_⟩
  subst e
  refine x_start (e := [some (.f (.tup [.str oo, .tup (ts.map Ti.d), .tup (xs.map Wi.d)])), some (.f (mostD most)), some (.f (cD cs)), none, none, none]) rfl ?_
  walk_at "x"
  refine ⟨oo, ts, xs, most, cs, rfl, wd.tr, ci.ok, ?_⟩
  have ov : openV oo ts xs most (n + 1) cs = if isNon (barF oo ts xs most cs) = true then (match nextV oo xs cs with
    | none => some cs
    | some a => (tiedL ts a).findSome? fun g => openV oo ts xs most n (cs ++ [(a, g)])) else none := rfl
  rcases barF_leaf (oo := oo) (ts := ts) (xs := xs) (most := most) ci.ok with hb | hb
  rotate_left
  · have nn : isNon (barF oo ts xs most cs) = false := by
      rcases hb with h | ⟨a, _, h | h⟩ <;> rw [h] <;> rfl
    rw [nn, if_neg Bool.false_ne_true] at ov
    rw [ov] at q
    generalize barF oo ts xs most cs = bd at hb
    rcases hb with rfl | ⟨a, _, rfl | rfl⟩ <;> (walk_at "x"; exact q)
  rw [hb] at ov ⊢
  rw [show isNon .non = true from rfl, if_pos rfl] at ov
  walk_at "x"
  refine ⟨oo, ts, xs, cs, rfl, wd.tr, ci.ok, ?_⟩
  cases hn : nextV oo xs cs with
  | none =>
    rw [hn] at ov
    rw [ov] at q
    dsimp only [strO]
    walk_at "x"
    exact q
  | some a =>
    rw [hn] at ov
    have ov : openV oo ts xs most (n + 1) cs = (tiedL ts a).findSome? fun g => openV oo ts xs most n (cs ++ [(a, g)]) := ov
    have an := next_name wd.tr ci.ok hn
    have rm := next_room wd ci hn
    obtain ⟨n, rfl⟩ : ∃ k, n = k + 1 := ⟨n - 1, by omega⟩
    obtain ⟨N, rfl⟩ : ∃ k, N = k + 1 := ⟨N - 1, by omega⟩
    dsimp only [strO]
    walk_at "x"
    refine ⟨oo, ts, xs, a, rfl, wd.tr, name_cp an, fun ys hy => ?_⟩
    rw [tiedL_eq hy] at ov
    have yl := tied_len hy
    walk_at "x"
    have fs : ∀ i g, ys[i]? = some g → (ys.drop i).findSome? (fun g => openV oo ts xs most (n + 1) (cs ++ [(a, g)])) = (match openV oo ts xs most (n + 1) (cs ++ [(a, g)]) with
      | some c => some c
      | none => (ys.drop (i + 1)).findSome? (fun g => openV oo ts xs most (n + 1) (cs ++ [(a, g)]))) := fun i g h => by
      obtain ⟨hl, rfl⟩ := List.getElem?_eq_some_iff.mp h
      rw [List.drop_eq_getElem_cons hl, List.findSome?_cons]
      cases openV oo ts xs most (n + 1) (cs ++ [(a, ys[i])]) <;> rfl
    generalize hG : (fun g => openV oo ts xs most (n + 1) (cs ++ [(a, g)])) = G at ov fs
    refine ⟨fun i e => (ys.drop i).findSome? G = ys.findSome? G ∧ ∃ x4 x5, e = [some (.f (.tup [.str oo, .tup (ts.map Ti.d), .tup (xs.map Wi.d)])), some (.f (mostD most)), some (.f (cD cs)), some (.f (.str a)), x4, x5], ⟨rfl, _, _, rfl⟩, ?_, ?_⟩
    · rintro i d e hd ⟨hi, x4, x5, rfl⟩
      obtain ⟨y, hyi, rfl⟩ := at_map hd
      have yt := (hy.mem y).mp (List.mem_of_getElem? hyi)
      have ci2 := csIn_snoc wd ci hn yt
      have f1 := fs i y hyi
      walk_at "x"
      refine ⟨_, _, rfl, by rw [List.length_map]; unfold cP; rw [List.length_map]; have := ci.ok.len; omega, ?_⟩
      walk_at "x"
      refine ⟨.inr a, rfl, fun hm => ?_, ?_⟩
      · obtain ⟨p, hp, e⟩ := List.mem_map.mp hm
        obtain ⟨p', hp', rfl⟩ := List.mem_map.mp hp
        exact (next_new hn).2 (List.mem_map.mpr ⟨p', hp', Sum.inr.inj e⟩)
      walk_at "x"
      refine ⟨_, _, rfl, by rw [dicO_snoc]; exact cd_dicO (cP (cs ++ [(a, y)])), ?_⟩
      walk_at "x"
      refine ⟨oo, ns, ts, xs, most, cs ++ [(a, y)], n, rfl, by omega, wd, ci2, by rw [List.length_append]; show ns.length ≤ List.length cs + 1 + n; omega, ?_⟩
      cases ho : openV oo ts xs most (n + 1) (cs ++ [(a, y)]) with
      | none =>
        rw [ho] at f1
        dsimp only [caseO]
        walk_at "x"
        exact ⟨f1.symm.trans hi, _, _, rfl⟩
      | some c =>
        rw [ho] at f1
        rw [ov, ← hi, f1] at q
        dsimp only [caseO] at q ⊢
        walk_at "x"
        exact q
    · rintro e ⟨hi, x4, x5, rfl⟩
      walk_at "x"
      rw [List.length_map, List.drop_length] at hi
      rw [ov, ← hi] at q
      exact q
theorem ok_openN (T : Txt K mg) (c_find_bar : Cal P w K mg base 3 "find_bar" (spW K tabs (liftF wFindB))) (c_next_actor : Cal P w K mg base 1 "next_actor" (spW K tabs (liftF wNextA))) (c_givers_to : Cal P w K mg base 1 "givers_to" (spW K tabs (liftF wGivers)))
    (A : At K mg "_find_open" s__find_open ["trust", "most", "settled"]) : ∀ n, Cal P w K mg base (n + 3) "_find_open" (spW K tabs (liftF (wOpen n)))
  | 0 => ok_open0 2 A
  | n + 1 => ok_open (k := n + 3) (by omega) T (ok_openN T c_find_bar c_next_actor c_givers_to A n) c_find_bar c_next_actor c_givers_to A

end
section
variable {P : Program} {w : World} {K : PySem.W.Frag} {mg : Str → Option Value} {base : Heap} {tabs : List Addr}
/-! ### the program: the tree grown -/
noncomputable def treeV (oo : Str) (ts : List Ti) (xs : List Wi) (most : Option Int) : Nat → Case → D
  | 0, _ => .non
  | n + 1, cs => if isNon (barF oo ts xs most cs) = true then (match nextV oo xs cs with
    | none => .non
    | some a => .tup [.str "giver", .str a, .tup (((tiedL ts a).map fun g => (g, treeV oo ts xs most n (cs ++ [(a, g)]))).map rwD)]) else barF oo ts xs most cs
def wTreeG : Nat → WFn
  | 0, _, _ => False
  | N + 1, ds, Q => ∃ (oo : Str) (ns : List Str) (ts : List Ti) (xs : List Wi) (most : Option Int) (cs : Case) (n : Nat), ds = [trustD oo ts xs, mostD most, cD cs] ∧ n ≤ N ∧ Wd oo ns ts xs ∧ CsIn oo ns cs ∧ ns.length ≤ cs.length + n ∧ openV oo ts xs most (n + 1) cs = none ∧ Q (.f (treeV oo ts xs most (n + 1) cs))
theorem mono__grow_tree : ∀ {n : Nat}, MonoF (wTreeG n)
  | 0 => fun _ _ _ _ h => h
  | n + 1 => fun ds Q Q' i ⟨oo, ns, ts, xs, most, cs, n0, h1, h2, h3, h4, h5, h6, q⟩ => ⟨oo, ns, ts, xs, most, cs, n0, h1, h2, h3, h4, h5, h6, i _ q⟩
theorem ok_tree0 (k : Nat) (A : At K mg "_grow_tree" s__grow_tree ["trust", "most", "settled"]) : Cal P w K mg base (k + 1) "_grow_tree" (spW K tabs (liftF (wTreeG 0))) := by
  refine A.of fun f fd F => fx_fnF F sc__grow_tree (fun ds Q h => h.elim) fun cdv A outer s H E TT P0 σ0 hcd hr => ⟨fun _ _ => False, ⟨⟨fun pins s σ H D I ⟨_, _, _, _, h⟩ => h.elim⟩, fun _ _ _ _ h => h⟩, fun ds Q h => h⟩
theorem ok_tree {N k : Nat} (hk : 3 ≤ k) (T : Txt K mg) (c__grow_tree : Cal P w K mg base k "_grow_tree" (spW K tabs (liftF (wTreeG N)))) (c_find_bar : Cal P w K mg base 3 "find_bar" (spW K tabs (liftF wFindB))) (c_next_actor : Cal P w K mg base 1 "next_actor" (spW K tabs (liftF wNextA))) (c_givers_to : Cal P w K mg base 1 "givers_to" (spW K tabs (liftF wGivers)))
    (A : At K mg "_grow_tree" s__grow_tree ["trust", "most", "settled"]) : Cal P w K mg base (k + 1) "_grow_tree" (spW K tabs (liftF (wTreeG (N + 1)))) := by
  refine A.of fun f fd F => fx_fnF F sc__grow_tree (fun ds Q ⟨_, _, _, _, _, _, _, h, _⟩ => by rw [h]; rfl) fun cdv A outer s H E TT P0 σ0 hcd hr => ⟨_, (gss_cons (gs_setE (i := 3) sc__grow_tree.nd rfl (Or.inl rfl) (ge_callF c_find_bar hr (by first | decide | omega) rfl rfl rfl mono_find_bar (gd_cons (GE.of_pure (gp_var (pv 0))) (gd_cons (GE.of_pure (gp_var (pv 1))) (gd_cons (GE.of_pure (gp_var (pv 2))) gd_nil)))))
      (gss_cons (gs_if (gt_cmpP opx_notN (gp_var (pv 3)) gp_non (nomark _))
      (gss_one (gs_ret (GE.of_pure (gp_var (pv 3)))))
      gss_nil)
      (gss_cons (gs_setE (i := 4) sc__grow_tree.nd rfl (Or.inr rfl) (ge_callF c_next_actor hr (by first | decide | omega) rfl rfl rfl mono_next_actor (gd_cons (GE.of_pure (gp_var (pv 0))) (gd_cons (GE.of_pure (gp_var (pv 2))) gd_nil))))
      (gss_cons (gs_setE (i := 5) sc__grow_tree.nd rfl (Or.inl rfl) (ge_callF c_givers_to hr (by first | decide | omega) rfl rfl rfl mono_givers_to (gd_cons (GE.of_pure (gp_var (pv 0))) (gd_cons (GE.of_pure (gp_var (pv 4))) gd_nil))))
      (gss_cons (gs_lcFR (i := 6) (own := [("giver", 7)]) (t := .name 7) rfl sc__grow_tree.nd rfl rfl (sw_true rfl rfl rfl (by decide +kernel)) (gi_list (GE.of_pure (gp_var (pv 5)))) (blkOk_by (own := [("giver", 7)]) (N := ["trust", "most", "settled", "bar", "actor", "givers", "trees", "giver"]) (sc := defScope s__grow_tree) (by decide +kernel)) (fun _ _ _ _ _ => (pg_name (i := 7) sc__grow_tree.nd rfl (Or.inl rfl))) (fun _ _ _ _ _ => (ge_tupD (gd_cons (GE.of_pure (gp_var (pv 7))) (gd_cons (ge_callF c__grow_tree hr (by first | decide | omega) rfl rfl rfl mono__grow_tree (gd_cons (GE.of_pure (gp_var (pv 0))) (gd_cons (GE.of_pure (gp_var (pv 1))) (gd_cons (ge_frz (ge_star (GE.of_pure (gp_var (pv 2))) (GE.of_pure (gp_var (pv 4))) (GE.of_pure (gp_var (pv 7))))) gd_nil)))) gd_nil)))) (by decide) (mem1 rfl) (mem1 (Nat.le_of_ble_eq_true rfl)))
      (gss_one (gs_ret (ge_tupD (gd_cons (GE.of_pure gp_str) (gd_cons (GE.of_pure (gp_var (pv 4))) (gd_cons (ge_cbT1 cax_tuple (by rfl) T.z_tuple (by decide +kernel) (pv 6)) gd_nil))))))))))), fun ds Q ⟨oo, ns, ts, xs, most, cs, n, e, hN, wd, ci, room, op, q⟩ => ?_⟩
  subst e
  refine x_start (e := [some (.f (.tup [.str oo, .tup (ts.map Ti.d), .tup (xs.map Wi.d)])), some (.f (mostD most)), some (.f (cD cs)), none, none, none, none, none]) rfl ?_
  walk_at "x"
  refine ⟨oo, ts, xs, most, cs, rfl, wd.tr, ci.ok, ?_⟩
  have ov : openV oo ts xs most (n + 1) cs = if isNon (barF oo ts xs most cs) = true then (match nextV oo xs cs with
    | none => some cs
    | some a => (tiedL ts a).findSome? fun g => openV oo ts xs most n (cs ++ [(a, g)])) else none := rfl
  have tv : treeV oo ts xs most (n + 1) cs = if isNon (barF oo ts xs most cs) = true then (match nextV oo xs cs with
    | none => .non
    | some a => .tup [.str "giver", .str a, .tup (((tiedL ts a).map fun g => (g, treeV oo ts xs most n (cs ++ [(a, g)]))).map rwD)]) else barF oo ts xs most cs := rfl
  rcases barF_leaf (oo := oo) (ts := ts) (xs := xs) (most := most) ci.ok with hb | hb
  rotate_left
  · have nn : isNon (barF oo ts xs most cs) = false := by
      rcases hb with h | ⟨a, _, h | h⟩ <;> rw [h] <;> rfl
    rw [nn, if_neg Bool.false_ne_true] at tv
    rw [tv] at q
    generalize barF oo ts xs most cs = bd at hb q
    rcases hb with rfl | ⟨a, _, rfl | rfl⟩ <;> (walk_at "x"; exact q)
  rw [hb] at ov tv ⊢
  rw [show isNon .non = true from rfl, if_pos rfl] at ov tv
  walk_at "x"
  refine ⟨oo, ts, xs, cs, rfl, wd.tr, ci.ok, ?_⟩
  cases hn : nextV oo xs cs with
  | none =>
    rw [hn] at ov
    rw [op] at ov
    cases ov
  | some a =>
    rw [hn] at ov tv
    have ov : openV oo ts xs most (n + 1) cs = (tiedL ts a).findSome? fun g => openV oo ts xs most n (cs ++ [(a, g)]) := ov
    have tv : treeV oo ts xs most (n + 1) cs = .tup [.str "giver", .str a, .tup (((tiedL ts a).map fun g => (g, treeV oo ts xs most n (cs ++ [(a, g)]))).map rwD)] := tv
    have an := next_name wd.tr ci.ok hn
    have rm := next_room wd ci hn
    obtain ⟨n, rfl⟩ : ∃ k, n = k + 1 := ⟨n - 1, by omega⟩
    obtain ⟨N, rfl⟩ : ∃ k, N = k + 1 := ⟨N - 1, by omega⟩
    dsimp only [strO]
    walk_at "x"
    refine ⟨oo, ts, xs, a, rfl, wd.tr, name_cp an, fun ys hy => ?_⟩
    rw [tiedL_eq hy] at ov tv
    rw [op] at ov
    have none_ : ∀ y ∈ ys, openV oo ts xs most (n + 1) (cs ++ [(a, y)]) = none := List.findSome?_eq_none_iff.mp ov.symm
    have yl := tied_len hy
    have tl := wd.tr.tl
    walk_at "x"
    rw [List.length_map]
    let row : Str → D := fun g => rwD (g, treeV oo ts xs most (n + 1) (cs ++ [(a, g)]))
    refine ⟨by omega, fun i acc e => acc = (ys.take i).map row ∧ ∃ x6 x7, e = [some (.f (.tup [.str oo, .tup (ts.map Ti.d), .tup (xs.map Wi.d)])), some (.f (mostD most)), some (.f (cD cs)), some (.f .non), some (.f (.str a)), some (.f (.lst (ys.map D.str))), x6, x7], ⟨rfl, _, _, rfl⟩, ?_, ?_⟩
    · rintro i d acc e hd ⟨rfl, x6, x7, rfl⟩
      obtain ⟨y, hyi, rfl⟩ := at_map hd
      have yt := (hy.mem y).mp (List.mem_of_getElem? hyi)
      have ci2 := csIn_snoc wd ci hn yt
      refine ⟨_, rfl, ?_⟩
      dsimp only [List.map_cons, List.map_nil, wipeE, setE, Tgt.js, List.set_cons_zero, List.set_cons_succ]
      walk_at "x"
      refine ⟨_, _, rfl, by rw [List.length_map]; unfold cP; rw [List.length_map]; have := ci.ok.len; omega, ?_⟩
      walk_at "x"
      refine ⟨.inr a, rfl, fun hm => ?_, ?_⟩
      · obtain ⟨p, hp, e⟩ := List.mem_map.mp hm
        obtain ⟨p', hp', rfl⟩ := List.mem_map.mp hp
        exact (next_new hn).2 (List.mem_map.mpr ⟨p', hp', Sum.inr.inj e⟩)
      walk_at "x"
      refine ⟨_, _, rfl, by rw [dicO_snoc]; exact cd_dicO (cP (cs ++ [(a, y)])), ?_⟩
      walk_at "x"
      refine ⟨oo, ns, ts, xs, most, cs ++ [(a, y)], n, rfl, by omega, wd, ci2, by rw [List.length_append]; show ns.length ≤ List.length cs + 1 + n; omega, none_ y (List.mem_of_getElem? hyi), ?_⟩
      walk_at "x"
      exact ⟨by rw [Fx.take_snoc hyi, List.map_append]; rfl, _, _, rfl⟩
    rintro acc e ⟨rfl, x6, x7, rfl⟩
    rw [List.take_length]
    walk_at "x"
    rw [tv, List.map_map] at q
    exact q
theorem ok_treeN (T : Txt K mg) (c_find_bar : Cal P w K mg base 3 "find_bar" (spW K tabs (liftF wFindB))) (c_next_actor : Cal P w K mg base 1 "next_actor" (spW K tabs (liftF wNextA))) (c_givers_to : Cal P w K mg base 1 "givers_to" (spW K tabs (liftF wGivers)))
    (A : At K mg "_grow_tree" s__grow_tree ["trust", "most", "settled"]) : ∀ n, Cal P w K mg base (n + 3) "_grow_tree" (spW K tabs (liftF (wTreeG n)))
  | 0 => ok_tree0 2 A
  | n + 1 => ok_tree (k := n + 3) (by omega) T (ok_treeN T c_find_bar c_next_actor c_givers_to A n) c_find_bar c_next_actor c_givers_to A

/-! ### what the search finds -/
theorem pw_rising : ∀ (l : List Str) (p : Str), (p :: l).Pairwise (fun a b : Str => a.cps.toList ≤ b.cps.toList) → risingS p l = true
  | [], _, _ => rfl
  | x :: r, p, h => by
    obtain ⟨h1, h2⟩ := List.pairwise_cons.mp h
    show (!ltCps x.cps.toList p.cps.toList && risingS x r) = true
    rw [Bool.and_eq_true, Bool.not_eq_true', ltCps_eq, decide_eq_false_iff_not, List.not_lt]
    exact ⟨h1 x (List.mem_cons_self ..), pw_rising r x h2⟩
def leS (a b : Str) : Bool := decide (a.cps.toList ≤ b.cps.toList)
theorem tied_ex (ts : List Ti) (a : Str) : ∃ ys, IsTied ts a ys := by
  let xs := (ts.filter (tiedT a)).map (·.a)
  let l := SS.met (fun i => xs.getD i Str.empty) xs.length
  let ys := l.mergeSort leS
  have pm : ys.Perm l := List.mergeSort_perm ..
  have pw : ys.Pairwise (fun a b => leS a b = true) := List.pairwise_mergeSort (le := leS) (fun a b c h1 h2 => decide_eq_true (List.le_trans (of_decide_eq_true h1) (of_decide_eq_true h2))) (fun a b => by
    rw [Bool.or_eq_true]
    rcases List.le_total a.cps.toList b.cps.toList with h | h
    · exact .inl (decide_eq_true h)
    · exact .inr (decide_eq_true h)) l
  have so : sortedS ys = true := by
    have pw2 : ys.Pairwise (fun a b : Str => a.cps.toList ≤ b.cps.toList) := pw.imp fun h => of_decide_eq_true h
    generalize ys = zs at pw2
    cases zs with
    | nil => rfl
    | cons x r => exact pw_rising r x pw2
  refine ⟨ys, tied_of (pm.nodup_iff.mpr (met_nodup _)) so fun y => ?_⟩
  rw [pm.mem_iff]
  exact SO.met_iff
theorem tiedL_is (ts : List Ti) (a : Str) : IsTied ts a (tiedL ts a) := by
  obtain ⟨ys, h⟩ := tied_ex ts a
  rw [tiedL_eq h]
  exact h
def Sub (cs full : Case) : Prop := ∀ x g, look cs x = some g → look full x = some g
theorem goes_sub {cs full : Case} (s : Sub cs full) : ∀ {n : Nat} {x y : Str}, goes cs n x = some y → goes full n x = some y
  | 0, _, _, h => h
  | n + 1, x, y, h => by
    have h : (goes cs n x).bind (look cs) = some y := h
    show (goes full n x).bind (look full) = some y
    cases e : goes cs n x with
    | none => rw [e] at h; cases h
    | some z =>
      rw [e] at h
      rw [goes_sub s e]
      exact s z y h
structure GoodC (oo : Str) (ns : List Str) (ts : List Ti) (xs : List Wi) (cs : Case) : Prop where
  ci : CsIn oo ns cs
  tied : ∀ p ∈ cs, ∃ t ∈ ts, t.b = p.1 ∧ t.a = p.2
  ring : ∀ a, ¬ Abv cs a a
  time : ∀ p ∈ cs, timeV ts xs cs p.1 p.2 = false
  nx : nextV oo xs cs = none
theorem findF_non {ts : List Ti} {xs : List Wi} {cs : Case} : ∀ {r : Case}, (∀ p ∈ r, ringV cs p.1 = false ∧ timeV ts xs cs p.1 p.2 = false) → findF ts xs cs r = .non
  | [], _ => rfl
  | p :: r, h => by
    obtain ⟨h1, h2⟩ := h p (List.mem_cons_self ..)
    unfold findF
    rw [h1, if_neg Bool.false_ne_true, h2, if_neg Bool.false_ne_true]
    exact findF_non fun q hq => h q (List.mem_cons_of_mem _ hq)
theorem non_findF {ts : List Ti} {xs : List Wi} {cs : Case} : ∀ {r : Case}, isNon (findF ts xs cs r) = true → ∀ p ∈ r, ringV cs p.1 = false ∧ timeV ts xs cs p.1 p.2 = false
  | [], _, _, hp => by cases hp
  | q :: r, h, p, hp => by
    unfold findF at h
    cases h1 : ringV cs q.1 with
    | true => rw [h1, if_pos rfl] at h; cases h
    | false =>
      rw [h1, if_neg Bool.false_ne_true] at h
      cases h2 : timeV ts xs cs q.1 q.2 with
      | true => rw [h2, if_pos rfl] at h; cases h
      | false =>
        rw [h2, if_neg Bool.false_ne_true] at h
        rcases List.mem_cons.mp hp with rfl | hp
        · exact ⟨h1, h2⟩
        · exact non_findF h p hp
theorem non_barF {oo : Str} {ts : List Ti} {xs : List Wi} {most : Option Int} {cs : Case} (h : isNon (barF oo ts xs most cs) = true) : fullV oo xs most cs = false ∧ ∀ p ∈ cs, ringV cs p.1 = false ∧ timeV ts xs cs p.1 p.2 = false := by
  unfold barF at h
  cases h1 : fullV oo xs most cs with
  | true => rw [h1, if_pos rfl] at h; cases h
  | false =>
    rw [h1, if_neg Bool.false_ne_true] at h
    exact ⟨rfl, non_findF h⟩
theorem ring_no {cs : Case} {a : Str} : ringV cs a = false ↔ ¬ Abv cs a a := by
  unfold ringV
  exact @decide_eq_false_iff_not _ (_)
theorem time_sub {ts : List Ti} {xs : List Wi} {cs full : Case} {a g : Str} (s : Sub cs full) (h : timeV ts xs full a g = false) : timeV ts xs cs a g = false := by
  unfold timeV at h ⊢
  rw [Bool.not_eq_false'] at h ⊢
  obtain ⟨t, ht, hb⟩ := List.any_eq_true.mp h
  refine List.any_eq_true.mpr ⟨t, ht, ?_⟩
  unfold bearB at hb ⊢
  rw [List.all_eq_true] at hb ⊢
  intro x hx
  obtain ⟨h1, h2⟩ := List.mem_filter.mp hx
  refine hb x (List.mem_filter.mpr ⟨h1, ?_⟩)
  unfold borneB at h2 ⊢
  obtain ⟨n, e⟩ := @of_decide_eq_true _ (_) h2
  exact @decide_eq_true _ (_) ⟨n, goes_sub s e⟩
theorem next_none {oo : Str} {xs : List Wi} {cs : Case} (h : nextV oo xs cs = none) {y : Str} (hy : y ∈ xs.map (·.a) ++ cs.map (·.2)) (ne : y ≠ oo) : y ∈ cs.map (·.1) := by
  have := List.find?_eq_none.mp h y hy
  simp only [Bool.and_eq_true, bne_iff_ne, ne_eq, Bool.not_eq_true', not_and, Bool.not_eq_false] at this
  exact List.contains_iff_mem.mp (this ne)
theorem next_sub {oo : Str} {ns : List Str} {ts : List Ti} {xs : List Wi} {cs full : Case} {a : Str} (ok : CsOk cs) (g : GoodC oo ns ts xs full) (s : Sub cs full) (hn : nextV oo xs cs = some a) : ∃ y, look full a = some y := by
  obtain ⟨an, ak⟩ := next_new hn
  have hm : a ∈ xs.map (·.a) ++ cs.map (·.2) := List.mem_of_find?_eq_some hn
  refine key_look g.ci.ok.nd (next_none g.nx ?_ an)
  rcases List.mem_append.mp hm with h | h
  · exact List.mem_append_left _ h
  · obtain ⟨p, hp, rfl⟩ := List.mem_map.mp h
    exact List.mem_append_right _ (List.mem_map.mpr ⟨_, look_mem (s _ _ (look_of ok.nd hp)), rfl⟩)
theorem sub_len {cs full : Case} {a y : Str} (nd : (cs.map (·.1)).Nodup) (s : Sub cs full) (ak : a ∉ cs.map (·.1)) (ha : look full a = some y) : cs.length + 1 ≤ full.length := by
  have := nodup_le (l := a :: cs.map (·.1)) (m := full.map (·.1)) (List.nodup_cons.mpr ⟨ak, nd⟩) fun z hz => by
    rcases List.mem_cons.mp hz with rfl | hz
    · exact look_key ha
    · obtain ⟨p, hp, rfl⟩ := List.mem_map.mp hz
      exact look_key (s _ _ (look_of nd hp))
  rw [List.length_cons, List.length_map, List.length_map] at this
  exact this
theorem snoc_look {cs : Case} {a g x y : Str} (h : look (cs ++ [(a, g)]) x = some y) : look cs x = some y ∨ (x = a ∧ y = g) := by
  rcases List.mem_append.mp (look_mem h) with hm | hm
  · cases e : look cs x with
    | none =>
      obtain ⟨z, hz⟩ : ∃ z, look cs x = some z := by
        unfold look at e ⊢
        rw [List.lookup_eq_none_iff] at e
        exact absurd (e _ hm) (by simp)
      rw [hz] at e
      cases e
    | some z =>
      left
      have : look (cs ++ [(a, g)]) x = some z := by
        unfold look at e ⊢
        rw [List.lookup_append, e]
        rfl
      rw [this] at h
      exact h
  · cases List.mem_singleton.mp hm
    exact .inr ⟨rfl, rfl⟩
theorem open_some {oo : Str} {ns : List Str} {ts : List Ti} {xs : List Wi} {most : Option Int} {full : Case} (wd : Wd oo ns ts xs) (g : GoodC oo ns ts xs full) (hm : ∀ m, most = some m → (full.length : Int) ≤ m) :
    ∀ (n : Nat) (cs : Case), CsIn oo ns cs → Sub cs full → ns.length ≤ cs.length + n → openV oo ts xs most (n + 1) cs ≠ none := by
  have bar : ∀ cs : Case, CsIn oo ns cs → Sub cs full → barF oo ts xs most cs = .non := fun cs ci s => by
    have f0 : fullV oo xs most cs = false := by
      cases hmo : most with
      | none => rfl
      | some m =>
        show (decide ((cs.length : Int) ≥ m) && (nextV oo xs cs).isSome) = false
        cases hn : nextV oo xs cs with
        | none => rw [Option.isSome_none, Bool.and_false]
        | some a =>
          obtain ⟨y, hy⟩ := next_sub ci.ok g s hn
          have := sub_len ci.ok.nd s (next_new hn).2 hy
          have := hm m hmo
          rw [decide_eq_false (by omega), Bool.false_and]
    unfold barF
    rw [f0, if_neg Bool.false_ne_true]
    refine findF_non fun p hp => ⟨ring_no.mpr fun ⟨n, e⟩ => g.ring p.1 ⟨n, goes_sub s e⟩, time_sub s (g.time _ (look_mem (s _ _ (look_of ci.ok.nd hp))))⟩
  intro n
  induction n with
  | zero =>
    intro cs ci s room h
    have ov : openV oo ts xs most (0 + 1) cs = if isNon (barF oo ts xs most cs) = true then (match nextV oo xs cs with
      | none => some cs
      | some a => (tiedL ts a).findSome? fun g => openV oo ts xs most 0 (cs ++ [(a, g)])) else none := rfl
    rw [bar cs ci s, show isNon .non = true from rfl, if_pos rfl] at ov
    cases hn : nextV oo xs cs with
    | none => rw [hn] at ov; rw [ov] at h; cases h
    | some a => have := next_room wd ci hn; omega
  | succ n ih =>
    intro cs ci s room h
    have ov : openV oo ts xs most (n + 1 + 1) cs = if isNon (barF oo ts xs most cs) = true then (match nextV oo xs cs with
      | none => some cs
      | some a => (tiedL ts a).findSome? fun g => openV oo ts xs most (n + 1) (cs ++ [(a, g)])) else none := rfl
    rw [bar cs ci s, show isNon .non = true from rfl, if_pos rfl] at ov
    cases hn : nextV oo xs cs with
    | none => rw [hn] at ov; rw [ov] at h; cases h
    | some a =>
      rw [hn] at ov
      have ov : openV oo ts xs most (n + 1 + 1) cs = (tiedL ts a).findSome? fun g => openV oo ts xs most (n + 1) (cs ++ [(a, g)]) := ov
      obtain ⟨y, hy⟩ := next_sub ci.ok g s hn
      have yt := g.tied _ (look_mem hy)
      have ym : y ∈ tiedL ts a := ((tiedL_is ts a).mem y).mpr yt
      rw [h] at ov
      have no := List.findSome?_eq_none_iff.mp ov.symm y ym
      refine ih (cs ++ [(a, y)]) (csIn_snoc wd ci hn yt) (fun x z hz => ?_) (by rw [List.length_append]; show ns.length ≤ List.length cs + 1 + n; omega) no
      rcases snoc_look hz with hz | ⟨rfl, rfl⟩
      · exact s x z hz
      · exact hy
theorem open_good {oo : Str} {ns : List Str} {ts : List Ti} {xs : List Wi} {most : Option Int} (wd : Wd oo ns ts xs) :
    ∀ (n : Nat) (cs c : Case), CsIn oo ns cs → (∀ p ∈ cs, ∃ t ∈ ts, t.b = p.1 ∧ t.a = p.2) → ns.length ≤ cs.length + n → openV oo ts xs most (n + 1) cs = some c → GoodC oo ns ts xs c ∧ ∀ m, most = some m → (cs.length : Int) ≤ m → (c.length : Int) ≤ m := by
  have one : ∀ (n : Nat) (cs c : Case), CsIn oo ns cs → (∀ p ∈ cs, ∃ t ∈ ts, t.b = p.1 ∧ t.a = p.2) → openV oo ts xs most (n + 1) cs = some c →
      (GoodC oo ns ts xs c ∧ c = cs) ∨ ∃ a y, nextV oo xs cs = some a ∧ fullV oo xs most cs = false ∧ y ∈ tiedL ts a ∧ openV oo ts xs most n (cs ++ [(a, y)]) = some c := fun n cs c ci td h => by
    have ov : openV oo ts xs most (n + 1) cs = if isNon (barF oo ts xs most cs) = true then (match nextV oo xs cs with
      | none => some cs
      | some a => (tiedL ts a).findSome? fun g => openV oo ts xs most n (cs ++ [(a, g)])) else none := rfl
    rw [h] at ov
    cases hb : isNon (barF oo ts xs most cs) with
    | false => rw [hb, if_neg Bool.false_ne_true] at ov; cases ov
    | true =>
      rw [hb, if_pos rfl] at ov
      obtain ⟨f0, fp⟩ := non_barF hb
      cases hn : nextV oo xs cs with
      | none =>
        rw [hn] at ov
        cases ov
        refine .inl ⟨⟨ci, td, fun a ab => ?_, fun p hp => (fp p hp).2, hn⟩, rfl⟩
        cases hl : look cs a with
        | none => exact abv_none hl ab
        | some g => exact ring_no.mp (fp _ (look_mem hl)).1 ab
      | some a =>
        rw [hn] at ov
        obtain ⟨y, hy, e⟩ := List.exists_of_findSome?_eq_some ov.symm
        exact .inr ⟨a, y, rfl, f0, hy, e⟩
  intro n
  induction n with
  | zero =>
    intro cs c ci td room h
    rcases one 0 cs c ci td h with ⟨g, rfl⟩ | ⟨a, y, hn, _⟩
    · exact ⟨g, fun m _ h => h⟩
    · have := next_room wd ci hn; omega
  | succ n ih =>
    intro cs c ci td room h
    rcases one (n + 1) cs c ci td h with ⟨g, rfl⟩ | ⟨a, y, hn, f0, hy, e⟩
    · exact ⟨g, fun m _ h => h⟩
    · have yt := ((tiedL_is ts a).mem y).mp hy
      obtain ⟨g, l⟩ := ih (cs ++ [(a, y)]) c (csIn_snoc wd ci hn yt) (fun p hp => by
        rcases List.mem_append.mp hp with hp | hp
        · exact td p hp
        · cases List.mem_singleton.mp hp; exact yt) (by rw [List.length_append]; show ns.length ≤ List.length cs + 1 + n; omega) e
      refine ⟨g, fun m hmo hl => l m hmo ?_⟩
      rw [hmo] at f0
      have f0 : (decide ((cs.length : Int) ≥ m) && (nextV oo xs cs).isSome) = false := f0
      rw [hn, Option.isSome_some, Bool.and_true] at f0
      have := of_decide_eq_false f0
      rw [List.length_append]
      show ((List.length cs + 1 : Nat) : Int) ≤ m
      omega
theorem sub_nil {full : Case} : Sub [] full := fun x g h => by cases h
/-- the search finds a case just when there is one -/
theorem open_iff {oo : Str} {ns : List Str} {ts : List Ti} {xs : List Wi} {most : Option Int} {n : Nat} (wd : Wd oo ns ts xs) (h0 : ∀ m, most = some m → 0 ≤ m) (hl : ns.length ≤ n) :
    openV oo ts xs most (n + 1) [] = none ↔ ∀ c, GoodC oo ns ts xs c → ∃ m, most = some m ∧ m < (c.length : Int) := by
  constructor
  · intro h c g
    by_cases hm : ∀ m, most = some m → (c.length : Int) ≤ m
    · exact absurd h (open_some wd g hm n [] (csIn_nil oo ns) sub_nil (by rw [List.length_nil]; omega))
    · obtain ⟨m, hm⟩ := Classical.not_forall.mp hm
      obtain ⟨h1, h2⟩ := Classical.not_imp.mp hm
      exact ⟨m, h1, by omega⟩
  · intro h
    cases e : openV oo ts xs most (n + 1) [] with
    | none => rfl
    | some c =>
      obtain ⟨g, l⟩ := open_good wd n [] c (csIn_nil oo ns) nofun (by rw [List.length_nil]; omega) e
      obtain ⟨m, h1, h2⟩ := h c g
      have := l m h1 (by have := h0 m h1; show ((0 : Nat) : Int) ≤ m; omega)
      omega

end
section
variable {P : Program} {w : World} {K : PySem.W.Frag} {mg : Str → Option Value} {base : Heap} {tabs : List Addr}
/-! ### trusts of any content, in shape -/
def TxOk (a : Str) : Prop := PyData.strOk a = true ∧ a.length ≤ 100
/-! ### the law's own words -/
/-! ### the law's forms -/
theorem formB_law (r : Rw) : formB r = (nameB (.str r.g) && (nameB (.str r.h) && (!(r.g == r.h) && (decide (0 ≤ r.k) && (decide (r.k ≤ 6) && (deedsB r.p && spanB (.int r.s) (.int r.u))))))) := by
  unfold formB
  rw [show betwB (.int r.k) 0 6 = (decide (0 ≤ r.k) && decide (r.k ≤ 6)) from rfl]
  cases deedsB r.p <;> cases nameB (.str r.g) <;> cases nameB (.str r.h) <;> cases (r.g == r.h) <;> cases decide (0 ≤ r.k) <;> cases decide (r.k ≤ 6) <;> cases spanB (.int r.s) (.int r.u) <;> rfl
theorem deeds4_strs : ∀ {d : D}, d ∈ deeds4 → ∃ xs : List Str, d = .tup (xs.map D.str) ∧ ∀ x ∈ xs, TxOk x := by
  intro d h
  have o1 : TxOk "look" := by constructor <;> decide +kernel
  have o2 : TxOk "set" := by constructor <;> decide +kernel
  rcases List.mem_cons.mp h with rfl | h
  · exact ⟨["look"], rfl, List.forall_mem_cons.mpr ⟨o1, nofun⟩⟩
  rcases List.mem_cons.mp h with rfl | h
  · exact ⟨["set"], rfl, List.forall_mem_cons.mpr ⟨o2, nofun⟩⟩
  rcases List.mem_cons.mp h with rfl | h
  · exact ⟨["look", "set"], rfl, List.forall_mem_cons.mpr ⟨o1, List.forall_mem_cons.mpr ⟨o2, nofun⟩⟩⟩
  obtain rfl := List.mem_singleton.mp h
  exact ⟨["set", "look"], rfl, List.forall_mem_cons.mpr ⟨o2, List.forall_mem_cons.mpr ⟨o1, nofun⟩⟩⟩
/-! ### lies, within -/
theorem any_ne {α : Type} {f : α → Bool} {g : α → D} {l : List α} : (!((l.filter f).map g).isEmpty) = l.any f := by
  induction l with
  | nil => rfl
  | cons x l ih =>
    rw [List.filter_cons, List.any_cons]
    cases h : f x with
    | true => rfl
    | false => rw [if_neg Bool.false_ne_true, Bool.false_or]; exact ih
theorem ne_nilD (l : List D) : eqB (.lst l) (.lst []) = l.isEmpty := by
  cases l <;> (show PyData.eqvAll (D.pyL _) [] = _; simp [D.pyL, PyData.eqvAll])

def IsMin (s : Int) (b : List Wi) : Prop := s ∈ b.map (·.s) ∧ ∀ x ∈ b, s ≤ x.s
def IsMax (u : Int) (b : List Wi) : Prop := u ∈ b.map (·.u) ∧ ∀ x ∈ b, x.u ≤ u
end
section
variable {P : Program} {w : World} {K : PySem.W.Frag} {mg : Str → Option Value} {base : Heap} {tabs : List Addr}
/-! ### the law: who comes to whom, late, next, tied -/
theorem time_tie {ts : List Ti} {b : List Wi} {a g : Str} {s u : Int} (hs : IsMin s b) (hu : IsMax u b) : ((ts.filter fun t => (t.a == g) && (t.b == a)).any fun t => bearB t b) = tieV ts ⟨g, a, .non, s, u, 0⟩ := by
  have e : ∀ t : Ti, bearB t b = inT ⟨g, a, .non, s, u, 0⟩ t := fun t => by
    rw [Bool.eq_iff_iff]
    unfold bearB inT
    rw [List.all_eq_true, Bool.and_eq_true, decide_eq_true_eq, decide_eq_true_eq]
    constructor
    · intro h
      obtain ⟨x, hx, e1⟩ := List.mem_map.mp hs.1
      obtain ⟨y, hy, e2⟩ := List.mem_map.mp hu.1
      have h1 := h x hx
      have h2 := h y hy
      rw [Bool.and_eq_true, decide_eq_true_eq, decide_eq_true_eq] at h1 h2
      exact ⟨by rw [← e1]; exact h1.1, by rw [← e2]; exact h2.2⟩
    · rintro ⟨h1, h2⟩ x hx
      rw [Bool.and_eq_true, decide_eq_true_eq, decide_eq_true_eq]
      exact ⟨Int.le_trans h1 (hs.2 x hx), Int.le_trans (hu.2 x hx) h2⟩
  unfold tieV
  rw [show (fun t => bearB t b) = inT ⟨g, a, .non, s, u, 0⟩ from funext e]
  rfl
end
section
variable {P : Program} {w : World} {K : PySem.W.Frag} {mg : Str → Option Value} {base : Heap} {tabs : List Addr}
/-! ### the law: trees judged -/
def Rooted (xs : List Wi) (cs : Case) : Prop := ∀ y, y ∈ cs.map (·.1) → ∃ x ∈ xs, Reach cs x.a y
end
section
variable {P : Program} {w : World} {K : PySem.W.Frag} {mg : Str → Option Value} {base : Heap} {tabs : List Addr}
/-! ### of a case that nothing bars, what bears a wish -/
theorem next_no {oo : Str} {xs : List Wi} {cs : Case} : nextV oo xs cs = none ↔ ∀ y, y ∈ xs.map (·.a) ++ cs.map (·.2) → y ≠ oo → y ∈ cs.map (·.1) := by
  refine ⟨fun h y hy ne => next_none h hy ne, fun h => ?_⟩
  unfold nextV
  rw [List.find?_eq_none]
  intro y hy hc
  rw [Bool.and_eq_true, bne_iff_ne, Bool.not_eq_true'] at hc
  have := h y hy hc.1
  rw [List.contains_iff_mem.mpr this] at hc
  cases hc.2
/-- of a case that nothing bars, only what bears a wish -/
noncomputable def rootB (xs : List Wi) (c : Case) (y : Str) : Bool := @decide (∃ x ∈ xs, Reach c x.a y) (Classical.propDecidable _)
theorem rootB_iff {xs : List Wi} {c : Case} {y : Str} : rootB xs c y = true ↔ ∃ x ∈ xs, Reach c x.a y := by
  unfold rootB
  exact @decide_eq_true_iff _ (_)
noncomputable def rootC (xs : List Wi) (c : Case) : Case := c.filter fun p => rootB xs c p.1
theorem rootC_look {xs : List Wi} {c : Case} (nd : (c.map (·.1)).Nodup) {x g : Str} : look (rootC xs c) x = some g ↔ look c x = some g ∧ rootB xs c x = true := by
  have nd2 : ((rootC xs c).map (·.1)).Nodup := nd.sublist (List.filter_sublist.map _)
  constructor
  · intro h
    obtain ⟨h1, h2⟩ := List.mem_filter.mp (look_mem h)
    exact ⟨look_of nd h1, h2⟩
  · rintro ⟨h1, h2⟩
    exact look_of nd2 (List.mem_filter.mpr ⟨look_mem h1, h2⟩)
theorem rootC_goes {xs : List Wi} {c : Case} (nd : (c.map (·.1)).Nodup) {x : Wi} (hx : x ∈ xs) : ∀ (n : Nat) (y : Str), goes (rootC xs c) n x.a = some y ↔ goes c n x.a = some y
  | 0, y => Iff.rfl
  | n + 1, y => by
    show (goes (rootC xs c) n x.a).bind (look (rootC xs c)) = some y ↔ (goes c n x.a).bind (look c) = some y
    cases h : goes c n x.a with
    | none =>
      cases h2 : goes (rootC xs c) n x.a with
      | none => exact ⟨nofun, nofun⟩
      | some z => rw [(rootC_goes nd hx n z).mp h2] at h; cases h
    | some z =>
      rw [(rootC_goes nd hx n z).mpr h]
      show look (rootC xs c) z = some y ↔ look c z = some y
      rw [rootC_look nd]
      exact ⟨fun e => e.1, fun e => ⟨e, rootB_iff.mpr ⟨x, hx, n, h⟩⟩⟩
theorem rootC_good {oo : Str} {ns : List Str} {ts : List Ti} {xs : List Wi} {c : Case} (wd : Wd oo ns ts xs) (g : GoodC oo ns ts xs c) : GoodC oo ns ts xs (rootC xs c) ∧ Rooted xs (rootC xs c) ∧ (rootC xs c).length ≤ c.length := by
  have nd := g.ci.ok.nd
  have nd2 : ((rootC xs c).map (·.1)).Nodup := nd.sublist (List.filter_sublist.map _)
  have m : ∀ p ∈ rootC xs c, p ∈ c ∧ rootB xs c p.1 = true := fun p hp => List.mem_filter.mp hp
  have rl : ∀ x ∈ xs, ∀ y, Reach (rootC xs c) x.a y ↔ Reach c x.a y := fun x hx y => ⟨fun ⟨n, e⟩ => ⟨n, (rootC_goes nd hx n y).mp e⟩, fun ⟨n, e⟩ => ⟨n, (rootC_goes nd hx n y).mpr e⟩⟩
  have sub : Sub (rootC xs c) c := fun x w h => ((rootC_look nd).mp h).1
  have len : (rootC xs c).length ≤ c.length := List.length_filter_le ..
  refine ⟨⟨⟨⟨nd2, fun p hp => g.ci.ok.a p (m p hp).1, fun p hp => g.ci.ok.b p (m p hp).1, Nat.le_trans len g.ci.ok.len⟩, fun p hp => g.ci.k p (m p hp).1, fun p hp => g.ci.v p (m p hp).1⟩,
    fun p hp => g.tied p (m p hp).1, fun a ⟨n, e⟩ => g.ring a ⟨n, goes_sub sub e⟩, fun p hp => time_sub sub (g.time p (m p hp).1), next_no.mpr fun y hy ne => ?_⟩, fun y hy => ?_, len⟩
  · have root : ∃ x ∈ xs, Reach c x.a y := by
      rcases List.mem_append.mp hy with h | h
      · obtain ⟨x, hx, rfl⟩ := List.mem_map.mp h
        exact ⟨x, hx, 0, rfl⟩
      · obtain ⟨p, hp, rfl⟩ := List.mem_map.mp h
        obtain ⟨h1, h2⟩ := m p hp
        obtain ⟨x, hx, n, e⟩ := rootB_iff.mp h2
        refine ⟨x, hx, n + 1, ?_⟩
        show (goes c n x.a).bind (look c) = some p.2
        rw [e]
        exact look_of nd h1
    have yk : y ∈ c.map (·.1) := by
      refine next_no.mp g.nx y ?_ ne
      rcases List.mem_append.mp hy with h | h
      · exact List.mem_append_left _ h
      · obtain ⟨p, hp, rfl⟩ := List.mem_map.mp h
        exact List.mem_append_right _ (List.mem_map.mpr ⟨p, (m p hp).1, rfl⟩)
    obtain ⟨q, hq, rfl⟩ := List.mem_map.mp yk
    exact List.mem_map.mpr ⟨q, List.mem_filter.mpr ⟨hq, rootB_iff.mpr root⟩, rfl⟩
  · obtain ⟨p, hp, rfl⟩ := List.mem_map.mp hy
    obtain ⟨x, hx, h⟩ := rootB_iff.mp (m p hp).2
    exact ⟨x, hx, (rl x hx _).mpr h⟩
theorem filter_all {α : Type} {p : α → Bool} : ∀ {l : List α}, l.length ≤ (l.filter p).length → ∀ x ∈ l, p x = true
  | [], _, x, h => by cases h
  | y :: l, h, x, hx => by
    cases hp : p y with
    | true =>
      rw [List.filter_cons_of_pos hp, List.length_cons, List.length_cons] at h
      rcases List.mem_cons.mp hx with rfl | hx
      · exact hp
      · exact filter_all (l := l) (Nat.le_of_succ_le_succ h) x hx
    | false =>
      rw [List.filter_cons_of_neg (by rw [hp]; decide), List.length_cons] at h
      have := List.length_filter_le p l
      omega
theorem least_rooted {oo : Str} {ns : List Str} {ts : List Ti} {xs : List Wi} {c : Case} (wd : Wd oo ns ts xs) (g : GoodC oo ns ts xs c) (least : ∀ c', GoodC oo ns ts xs c' → c.length ≤ c'.length) : Rooted xs c := fun y hy => by
  obtain ⟨p, hp, rfl⟩ := List.mem_map.mp hy
  exact rootB_iff.mp (filter_all (least _ (rootC_good wd g).1) p hp)

/-! ### the program: the least plan -/
def dsP (b : List Wi) : List D := [.str "look", .str "set"].filter fun d => b.any fun x => memB (deedsL x.p) d
def IsDep (cs : Case) (a : Str) (k : Nat) : Prop := (∃ x, goes cs k x = some a) ∧ ∀ x j, goes cs j x = some a → j ≤ k
structure PRow (xs : List Wi) (cs : Case) (r : Rw) : Prop where
  g : look cs r.h = some r.g
  p : r.p = .tup (dsP (xs.filter (borneB cs r.h)))
  s : IsMin r.s (xs.filter (borneB cs r.h))
  u : IsMax r.u (xs.filter (borneB cs r.h))
  k : ∃ k : Nat, r.k = (k : Int) ∧ IsDep cs r.h k
def wPlanR : WFn := fun ds Q => ∃ (oo : Str) (ns : List Str) (ts : List Ti) (xs : List Wi) (cs : Case) (a : Str), ds = [trustD oo ts xs, cD cs, .str a] ∧ Wd oo ns ts xs ∧ GoodC oo ns ts xs cs ∧ Rooted xs cs ∧ a ∈ cs.map (·.1) ∧ ∀ r : Rw, r.h = a → PRow xs cs r → Q (.f r.d)
theorem mono__planned : MonoF wPlanR := fun ds Q Q' i ⟨oo, ns, ts, xs, cs, a, h1, h2, h3, h4, h5, q⟩ => ⟨oo, ns, ts, xs, cs, a, h1, h2, h3, h4, h5, fun r a b => i _ (q r a b)⟩
/-- no case that nothing bars has fewer leaves -/
def LeastC (oo : Str) (ns : List Str) (ts : List Ti) (xs : List Wi) (c : Case) : Prop := GoodC oo ns ts xs c ∧ ∀ c', GoodC oo ns ts xs c' → c.length ≤ c'.length
def wLeast : WFn := fun ds Q => ∃ (oo : Str) (ns : List Str) (ts : List Ti) (xs : List Wi), ds = [trustD oo ts xs] ∧ Wd oo ns ts xs ∧
  ((∀ c, ¬ GoodC oo ns ts xs c) → Q (.f (.tup [.str "none", treeV oo ts xs none 7 []]))) ∧
  ∀ (c : Case) (rs : List Rw), LeastC oo ns ts xs c → openV oo ts xs (some (c.length : Int)) 7 [] = some c → (rs.map (·.h)).Perm (c.map (·.1)) → sortedS (rs.map (·.h)) = true → (∀ r ∈ rs, PRow xs c r) → Q (.f (.tup [.str "plan", .tup (rs.map Rw.d), treeV oo ts xs (some ((c.length : Int) - 1)) 7 []]))
theorem mono_least_plan : MonoF wLeast := fun ds Q Q' i ⟨oo, ns, ts, xs, h1, h2, q1, q2⟩ => ⟨oo, ns, ts, xs, h1, h2, fun h => i _ (q1 h), fun c rs a b d e f => i _ (q2 c rs a b d e f)⟩
theorem good_pos {oo : Str} {ns : List Str} {ts : List Ti} {xs : List Wi} {c : Case} (tr : TrOk oo ts xs) (g : GoodC oo ns ts xs c) : 1 ≤ c.length := by
  have x1 := tr.x1
  cases hx : xs with
  | nil => rw [hx] at x1; exact absurd x1 (by decide)
  | cons x r =>
    have hm : x ∈ xs := by rw [hx]; exact List.mem_cons_self ..
    have := next_none g.nx (List.mem_append_left _ (List.mem_map.mpr ⟨x, hm, rfl⟩)) (tr.no x hm)
    cases c with
    | nil => cases this
    | cons p r => exact Nat.succ_le_succ (Nat.zero_le _)
theorem good_len {oo : Str} {ns : List Str} {ts : List Ti} {xs : List Wi} {c : Case} (g : GoodC oo ns ts xs c) : c.length ≤ 6 := g.ci.ok.len
theorem ok_least (T : Txt K mg) (c__find_open : Cal P w K mg base 10 "_find_open" (spW K tabs (liftF (wOpen 7)))) (c__grow_tree : Cal P w K mg base 10 "_grow_tree" (spW K tabs (liftF (wTreeG 7)))) (c__planned : Cal P w K mg base 10 "_planned" (spW K tabs (liftF wPlanR)))
    (A : At K mg "least_plan" s_least_plan ["trust"]) : Cal P w K mg base 11 "least_plan" (spW K tabs (liftF wLeast)) := by
  refine A.of fun f fd F => fx_fnF F sc_least_plan (fun ds Q ⟨_, _, _, _, h, _⟩ => by rw [h]; rfl) fun cdv A outer s H E TT P0 σ0 hcd hr => ⟨_, (gss_cons (gs_if (gt_cmp opx_isN (ge_callF c__find_open hr (by first | decide | omega) rfl rfl rfl mono__find_open (gd_cons (GE.of_pure (gp_var (pv 0))) (gd_cons (GE.of_pure gp_non) (gd_cons ge_dnew gd_nil)))) (GE.of_pure gp_non) (nomark _))
      (gss_one (gs_ret (ge_tupD (gd_cons (GE.of_pure gp_str) (gd_cons (ge_callF c__grow_tree hr (by first | decide | omega) rfl rfl rfl mono__grow_tree (gd_cons (GE.of_pure (gp_var (pv 0))) (gd_cons (GE.of_pure gp_non) (gd_cons ge_dnew gd_nil)))) gd_nil)))))
      gss_nil)
      (gss_cons (gs_setE (i := 1) sc_least_plan.nd rfl (Or.inl rfl) (GE.of_pure gp_int))
      (gss_cons (gs_setE (i := 2) sc_least_plan.nd rfl (Or.inr rfl) (ge_callF c__find_open hr (by first | decide | omega) rfl rfl rfl mono__find_open (gd_cons (GE.of_pure (gp_var (pv 0))) (gd_cons (GE.of_pure (gp_var (pv 1))) (gd_cons ge_dnew gd_nil)))))
      (gss_cons (gs_while PassesOwn.never (gt_cmpP opx_isN (gp_var (pv 2)) gp_non (nomark _))
      (gss_cons (gs_augE (i := 1) sc_least_plan.nd rfl (Or.inl rfl) (GE.of_pure gp_int) ipx_add)
      (gss_one (gs_setE (i := 2) sc_least_plan.nd rfl (Or.inr rfl) (ge_callF c__find_open hr (by first | decide | omega) rfl rfl rfl mono__find_open (gd_cons (GE.of_pure (gp_var (pv 0))) (gd_cons (GE.of_pure (gp_var (pv 1))) (gd_cons ge_dnew gd_nil))))))))
      (gss_cons (gs_setE (i := 3) sc_least_plan.nd rfl (Or.inl rfl) (ge_cbT cax_tuple (by rfl) T.z_tuple (by decide +kernel) (gd_cons (ge_frz (ge_lcR (own := [("actor", 4)]) (t := .name 4) rfl sc_least_plan.nd (gi_list (ge_frz (ge_sortedD rfl rfl T.z_sorted (GE.of_pure (gp_var (pv 2)))))) (blkOk_by (own := [("actor", 4)]) (N := ["trust", "most", "settled", "plan", "actor"]) (sc := defScope s_least_plan) (by decide +kernel)) (fun _ _ _ _ _ => (pg_name (i := 4) sc_least_plan.nd rfl (Or.inl rfl))) (fun _ _ _ _ _ => (ge_callF c__planned hr (by first | decide | omega) rfl rfl rfl mono__planned (gd_cons (GE.of_pure (gp_var (pv 0))) (gd_cons (GE.of_pure (gp_var (pv 2))) (gd_cons (GE.of_pure (gp_var (pv 4))) gd_nil))))) (by decide) (mem1 rfl) (mem1 (Nat.le_of_ble_eq_true rfl)))) gd_nil)))
      (gss_one (gs_ret (ge_tupD (gd_cons (GE.of_pure gp_str) (gd_cons (GE.of_pure (gp_var (pv 3))) (gd_cons (ge_callF c__grow_tree hr (by first | decide | omega) rfl rfl rfl mono__grow_tree (gd_cons (GE.of_pure (gp_var (pv 0))) (gd_cons (GE.of_pure (gp_op opx_sub (gp_var (pv 1)) gp_int)) (gd_cons ge_dnew gd_nil)))) gd_nil))))))))))), fun ds Q ⟨oo, ns, ts, xs, e, wd, q1, q2⟩ => ?_⟩
  subst e
  have nl := wd.nl
  refine x_start (e := [some (.f (.tup [.str oo, .tup (ts.map Ti.d), .tup (xs.map Wi.d)])), none, none, none, none]) rfl ?_
  walk_at "x"
  have rm0 : ns.length ≤ List.length ([] : Case) + 6 := by rw [List.length_nil]; omega
  refine ⟨oo, ns, ts, xs, none, [], 6, rfl, by decide, wd, csIn_nil oo ns, rm0, ?_⟩
  cases ho : openV oo ts xs none 7 [] with
  | none =>
    dsimp only [caseO]
    walk_at "x"
    refine ⟨oo, ns, ts, xs, none, [], 6, rfl, by decide, wd, csIn_nil oo ns, rm0, ho, ?_⟩
    walk_at "x"
    exact q1 fun c g => by
      obtain ⟨m, h, _⟩ := (open_iff (n := 6) wd (fun m h => by cases h) nl).mp ho c g
      cases h
  | some c0 =>
    obtain ⟨g0, _⟩ := open_good wd 6 [] c0 (csIn_nil oo ns) nofun rm0 ho
    have l0 := good_len g0
    have dec : ∀ m : Nat, openV oo ts xs (some (m : Int)) 7 [] = none ↔ ∀ c, GoodC oo ns ts xs c → m < c.length := fun m => by
      rw [open_iff (n := 6) wd (fun k h => by cases h; omega) nl]
      constructor
      · intro h c g
        obtain ⟨k, e, l⟩ := h c g
        cases e
        omega
      · intro h c g
        have := h c g
        exact ⟨_, rfl, by omega⟩
    dsimp only [caseO]
    walk_at "x"
    refine ⟨oo, ns, ts, xs, some 1, [], 6, rfl, by decide, wd, csIn_nil oo ns, rm0, ?_⟩
    walk_at "x"
    refine ⟨fun k e => ∃ (m : Nat) (x3 x4 : Option Sl), 1 ≤ m ∧ k + m = 7 ∧ (∀ c, GoodC oo ns ts xs c → m ≤ c.length) ∧ e = [some (.f (.tup [.str oo, .tup (ts.map Ti.d), .tup (xs.map Wi.d)])), some (.f (.int (m : Int))), some (.f (caseO (openV oo ts xs (some (m : Int)) 7 []))), x3, x4], ⟨6, 1, _, _, Nat.le_refl _, rfl, fun c g => good_pos wd.tr g, rfl⟩, ?_⟩
    rintro k e ⟨m, x3, x4, m1, km, low, rfl⟩
    have m6 : m ≤ 6 := Nat.le_trans (low c0 g0) l0
    cases hm : openV oo ts xs (some (m : Int)) 7 [] with
    | none =>
      have up := (dec m).mp hm
      dsimp only [caseO]
      walk_at "x"
      refine ⟨oo, ns, ts, xs, some ((m : Int) + 1), [], 6, rfl, by decide, wd, csIn_nil oo ns, rm0, ?_⟩
      walk_at "x"
      exact ⟨k - 1, by omega, m + 1, _, _, by omega, by omega, up, rfl⟩
    | some c =>
      obtain ⟨g, lm⟩ := open_good wd 6 [] c (csIn_nil oo ns) nofun rm0 hm
      have cm : c.length = m := by
        have h1 := low c g
        have h2 := lm m rfl (by show ((0 : Nat) : Int) ≤ m; omega)
        omega
      have lc : LeastC oo ns ts xs c := ⟨g, fun c' g' => by rw [cm]; exact low c' g'⟩
      have before : openV oo ts xs (some ((c.length : Int) - 1)) 7 [] = none := by
        have := (dec (m - 1)).mpr fun c' g' => by have := low c' g'; omega
        rw [show ((m - 1 : Nat) : Int) = (c.length : Int) - 1 by omega] at this
        exact this
      dsimp only [caseO]
      walk_at "x"
      have keys : (cP c).map (·.1) = (c.map (·.1)).map Sum.inr := by unfold cP; rw [List.map_map, List.map_map]; rfl
      have c6 := good_len g
      refine ⟨cP c, c.map (·.1), rfl, keys, by rw [List.length_map]; omega, fun ys pm so => ?_⟩
      have yl : ys.length ≤ 6 := by rw [pm.length_eq, List.length_map]; exact c6
      walk_at "x"
      refine ⟨by rw [List.length_map]; omega, fun i acc e => ∃ (rs : List Rw) (x4 : Option Sl), acc = rs.map Rw.d ∧ rs.map (·.h) = ys.take i ∧ (∀ r ∈ rs, PRow xs c r) ∧ e = [some (.f (.tup [.str oo, .tup (ts.map Ti.d), .tup (xs.map Wi.d)])), some (.f (.int (m : Int))), some (.f (cD c)), x3, x4], ⟨[], _, rfl, rfl, nofun, rfl⟩, ?_, ?_⟩
      · rintro i d acc e hd ⟨rs, x4, rfl, hrs, hpr, rfl⟩
        obtain ⟨y, hy, rfl⟩ := at_map hd
        refine ⟨_, rfl, ?_⟩
        dsimp only [List.map_cons, List.map_nil, wipeE, setE, Tgt.js, List.set_cons_zero, List.set_cons_succ]
        walk_at "x"
        refine ⟨oo, ns, ts, xs, c, y, rfl, wd, g, least_rooted wd g lc.2, pm.mem_iff.mp (List.mem_of_getElem? hy), fun r hr pr => ?_⟩
        walk_at "x"
        refine ⟨rs ++ [r], _, by rw [List.map_append]; rfl, by rw [List.map_append, hrs, Fx.take_snoc hy, ← hr]; rfl, fun r' hr' => ?_, rfl⟩
        rcases List.mem_append.mp hr' with h | h
        · exact hpr r' h
        · rw [List.mem_singleton.mp h]; exact pr
      rintro acc e ⟨rs, x4, rfl, hrs, hpr, rfl⟩
      rw [List.length_map, List.take_length] at hrs
      walk_at "x"
      refine ⟨oo, ns, ts, xs, some ((m : Int) - 1), [], 6, rfl, by decide, wd, csIn_nil oo ns, rm0, by rw [← cm]; exact before, ?_⟩
      walk_at "x"
      have fin := q2 c rs lc (by rw [cm]; exact hm) (by rw [hrs]; exact pm) (by rw [hrs]; exact so) hpr
      rw [cm] at fin
      exact fin

end
section
variable {P : Program} {w : World} {K : PySem.W.Frag} {mg : Str → Option Value} {base : Heap} {tabs : List Addr}
/-! ### the tree that is grown holds -/
/-! ### a row of the plan, from the rows under it -/
theorem reach_step {cs : Case} {x a : Str} : Reach cs x a ↔ x = a ∨ ∃ o, look cs o = some a ∧ Reach cs x o := by
  constructor
  · rintro ⟨n, e⟩
    cases n with
    | zero => exact .inl (Option.some.inj e)
    | succ n =>
      have e : (goes cs n x).bind (look cs) = some a := e
      cases h : goes cs n x with
      | none => rw [h] at e; cases e
      | some o => rw [h] at e; exact .inr ⟨o, e, n, h⟩
  · rintro (rfl | ⟨o, h, n, e⟩)
    · exact ⟨0, rfl⟩
    · refine ⟨n + 1, ?_⟩
      show (goes cs n x).bind (look cs) = some a
      rw [e]
      exact h
theorem borne_iff {cs : Case} {a : Str} {x : Wi} : borneB cs a x = true ↔ Reach cs x.a a := by
  unfold borneB
  exact @decide_eq_true_iff _ (_)
theorem below_iff {xs : List Wi} {cs : Case} {a : Str} {x : Wi} : x ∈ xs.filter (borneB cs a) ↔ x ∈ xs ∧ (x.a = a ∨ ∃ o, look cs o = some a ∧ x ∈ xs.filter (borneB cs o)) := by
  rw [List.mem_filter, borne_iff, reach_step]
  constructor
  · rintro ⟨h, e | ⟨o, h1, h2⟩⟩
    · exact ⟨h, .inl e⟩
    · exact ⟨h, .inr ⟨o, h1, List.mem_filter.mpr ⟨h, borne_iff.mpr h2⟩⟩⟩
  · rintro ⟨h, e | ⟨o, h1, h2⟩⟩
    · exact ⟨h, .inl e⟩
    · exact ⟨h, .inr ⟨o, h1, borne_iff.mp (List.mem_filter.mp h2).2⟩⟩
/-- the rows of those whom a gives to -/
structure Under (xs : List Wi) (cs : Case) (a : Str) (rs : List Rw) : Prop where
  row : ∀ r ∈ rs, PRow xs cs r ∧ look cs r.h = some a
  all : ∀ o, look cs o = some a → ∃ r ∈ rs, r.h = o
def ownW (xs : List Wi) (a : Str) : List Wi := xs.filter fun x => x.a == a
theorem own_below {xs : List Wi} {cs : Case} {a : Str} {x : Wi} (h : x ∈ ownW xs a) : x ∈ xs.filter (borneB cs a) := by
  obtain ⟨h1, h2⟩ := List.mem_filter.mp h
  exact below_iff.mpr ⟨h1, .inl (eq_of_beq h2)⟩
theorem row_below {xs : List Wi} {cs : Case} {a : Str} {rs : List Rw} {r : Rw} {x : Wi} (u : Under xs cs a rs) (hr : r ∈ rs) (h : x ∈ xs.filter (borneB cs r.h)) : x ∈ xs.filter (borneB cs a) :=
  below_iff.mpr ⟨(List.mem_filter.mp h).1, .inr ⟨r.h, (u.row r hr).2, h⟩⟩
theorem below_case {xs : List Wi} {cs : Case} {a : Str} {rs : List Rw} {x : Wi} (u : Under xs cs a rs) (h : x ∈ xs.filter (borneB cs a)) : x ∈ ownW xs a ∨ ∃ r ∈ rs, x ∈ xs.filter (borneB cs r.h) := by
  obtain ⟨h1, e | ⟨o, h2, h3⟩⟩ := below_iff.mp h
  · exact .inl (List.mem_filter.mpr ⟨h1, beq_iff_eq.mpr e⟩)
  · obtain ⟨r, hr, rfl⟩ := u.all o h2
    exact .inr ⟨r, hr, h3⟩
theorem min_up {xs : List Wi} {cs : Case} {a : Str} {rs : List Rw} {m : Int} (u : Under xs cs a rs) (hm : m ∈ rs.map (·.s) ++ (ownW xs a).map (·.s)) (hl : ∀ y ∈ rs.map (·.s) ++ (ownW xs a).map (·.s), m ≤ y) : IsMin m (xs.filter (borneB cs a)) := by
  refine ⟨?_, fun x hx => ?_⟩
  · rcases List.mem_append.mp hm with h | h
    · obtain ⟨r, hr, rfl⟩ := List.mem_map.mp h
      obtain ⟨x, hx, e⟩ := List.mem_map.mp (u.row r hr).1.s.1
      exact List.mem_map.mpr ⟨x, row_below u hr hx, e⟩
    · obtain ⟨x, hx, rfl⟩ := List.mem_map.mp h
      exact List.mem_map.mpr ⟨x, own_below hx, rfl⟩
  · rcases below_case u hx with h | ⟨r, hr, h⟩
    · exact hl _ (List.mem_append_right _ (List.mem_map.mpr ⟨x, h, rfl⟩))
    · exact Int.le_trans (hl _ (List.mem_append_left _ (List.mem_map.mpr ⟨r, hr, rfl⟩))) ((u.row r hr).1.s.2 x h)
theorem max_up {xs : List Wi} {cs : Case} {a : Str} {rs : List Rw} {m : Int} (u : Under xs cs a rs) (hm : m ∈ rs.map (·.u) ++ (ownW xs a).map (·.u)) (hl : ∀ y ∈ rs.map (·.u) ++ (ownW xs a).map (·.u), y ≤ m) : IsMax m (xs.filter (borneB cs a)) := by
  refine ⟨?_, fun x hx => ?_⟩
  · rcases List.mem_append.mp hm with h | h
    · obtain ⟨r, hr, rfl⟩ := List.mem_map.mp h
      obtain ⟨x, hx, e⟩ := List.mem_map.mp (u.row r hr).1.u.1
      exact List.mem_map.mpr ⟨x, row_below u hr hx, e⟩
    · obtain ⟨x, hx, rfl⟩ := List.mem_map.mp h
      exact List.mem_map.mpr ⟨x, own_below hx, rfl⟩
  · rcases below_case u hx with h | ⟨r, hr, h⟩
    · exact hl _ (List.mem_append_right _ (List.mem_map.mpr ⟨x, h, rfl⟩))
    · exact Int.le_trans ((u.row r hr).1.u.2 x h) (hl _ (List.mem_append_left _ (List.mem_map.mpr ⟨r, hr, rfl⟩)))
theorem dep_up {xs : List Wi} {cs : Case} {a : Str} {rs : List Rw} (u : Under xs cs a rs) {m : Int} (h0 : rs = [] → m = 0) (hm : rs ≠ [] → m ∈ rs.map fun r => r.k + 1) (hl : ∀ r ∈ rs, r.k + 1 ≤ m) : ∃ k : Nat, m = (k : Int) ∧ IsDep cs a k := by
  have up : ∀ {k : Nat} {x o : Str}, goes cs k x = some o → look cs o = some a → goes cs (k + 1) x = some a := fun {k x o} h1 h2 => by
    show (goes cs k x).bind (look cs) = some a
    rw [h1]
    exact h2
  have dn : ∀ {j : Nat} {x : Str}, goes cs (j + 1) x = some a → ∃ o, goes cs j x = some o ∧ look cs o = some a := fun {j x} h => by
    have h : (goes cs j x).bind (look cs) = some a := h
    cases e : goes cs j x with
    | none => rw [e] at h; cases h
    | some o => rw [e] at h; exact ⟨o, rfl, h⟩
  by_cases e : rs = []
  · refine ⟨0, h0 e, ⟨a, rfl⟩, fun x j h => ?_⟩
    cases j with
    | zero => exact Nat.le_refl _
    | succ j =>
      obtain ⟨o, _, h2⟩ := dn h
      obtain ⟨r, hr, _⟩ := u.all o h2
      rw [e] at hr
      cases hr
  · obtain ⟨r, hr, rfl⟩ := List.mem_map.mp (hm e)
    obtain ⟨⟨_, _, _, _, k, ek, ⟨x, hx⟩, _⟩, hlk⟩ := u.row r hr
    refine ⟨k + 1, by rw [ek]; rfl, ⟨x, up hx hlk⟩, fun y j h => ?_⟩
    cases j with
    | zero => exact Nat.zero_le _
    | succ j =>
      obtain ⟨o, h1, h2⟩ := dn h
      obtain ⟨r', hr', rfl⟩ := u.all o h2
      obtain ⟨⟨_, _, _, _, k', ek', _, hk'⟩, _⟩ := u.row r' hr'
      have l1 := hk' y j h1
      have l2 := hl r' hr'
      rw [ek', ek] at l2
      omega
theorem dsP_mem {b : List Wi} : memB (dsP b) (.str "look") = (b.any fun x => memB (deedsL x.p) (.str "look")) ∧ memB (dsP b) (.str "set") = (b.any fun x => memB (deedsL x.p) (.str "set")) := by
  unfold dsP
  rw [List.filter_cons, List.filter_cons, List.filter_nil]
  generalize (b.any fun x => memB (deedsL x.p) (.str "look")) = p
  generalize (b.any fun x => memB (deedsL x.p) (.str "set")) = q
  cases p <;> cases q <;> decide +kernel
theorem deed_up {xs : List Wi} {cs : Case} {a : Str} {rs : List Rw} (u : Under xs cs a rs) {d : D} (hd : d = .str "look" ∨ d = .str "set") :
    ((rs.map (·.p) ++ (ownW xs a).map (·.p)).any fun p => memB (deedsL p) d) = (xs.filter (borneB cs a)).any fun x => memB (deedsL x.p) d := by
  have one : ∀ b : List Wi, memB (dsP b) d = b.any fun x => memB (deedsL x.p) d := fun b => by
    rcases hd with rfl | rfl
    · exact dsP_mem.1
    · exact dsP_mem.2
  rw [Bool.eq_iff_iff, List.any_eq_true, List.any_eq_true]
  constructor
  · rintro ⟨p, hp, h⟩
    rcases List.mem_append.mp hp with hp | hp
    · obtain ⟨r, hr, rfl⟩ := List.mem_map.mp hp
      rw [(u.row r hr).1.p] at h
      have h : memB (dsP (xs.filter (borneB cs r.h))) d = true := h
      rw [one] at h
      obtain ⟨x, hx, h⟩ := List.any_eq_true.mp h
      exact ⟨x, row_below u hr hx, h⟩
    · obtain ⟨x, hx, rfl⟩ := List.mem_map.mp hp
      exact ⟨x, own_below hx, h⟩
  · rintro ⟨x, hx, h⟩
    rcases below_case u hx with hx | ⟨r, hr, hx⟩
    · exact ⟨x.p, List.mem_append_right _ (List.mem_map.mpr ⟨x, hx, rfl⟩), h⟩
    · refine ⟨r.p, List.mem_append_left _ (List.mem_map.mpr ⟨r, hr, rfl⟩), ?_⟩
      rw [(u.row r hr).1.p]
      show memB (dsP (xs.filter (borneB cs r.h))) d = true
      rw [one]
      exact List.any_eq_true.mpr ⟨x, hx, h⟩
theorem deeds_up {xs : List Wi} {cs : Case} {a : Str} {rs : List Rw} (u : Under xs cs a rs) :
    ([D.str "look", .str "set"].filter fun d => (rs.map (·.p) ++ (ownW xs a).map (·.p)).any fun p => memB (deedsL p) d) = dsP (xs.filter (borneB cs a)) := by
  unfold dsP
  rw [List.filter_cons, List.filter_cons, List.filter_nil, List.filter_cons, List.filter_cons, List.filter_nil, deed_up u (.inl rfl), deed_up u (.inr rfl)]
theorem row_up {xs : List Wi} {cs : Case} {a g : Str} {rs : List Rw} (u : Under xs cs a rs) (hg : look cs a = some g) {s e m : Int}
    (h1 : s ∈ rs.map (·.s) ++ (ownW xs a).map (·.s)) (h2 : ∀ y ∈ rs.map (·.s) ++ (ownW xs a).map (·.s), s ≤ y) (h3 : e ∈ rs.map (·.u) ++ (ownW xs a).map (·.u)) (h4 : ∀ y ∈ rs.map (·.u) ++ (ownW xs a).map (·.u), y ≤ e)
    (h5 : rs = [] → m = 0) (h6 : rs ≠ [] → m ∈ rs.map fun r => r.k + 1) (h7 : ∀ r ∈ rs, r.k + 1 ≤ m) :
    PRow xs cs ⟨g, a, .tup ([D.str "look", .str "set"].filter fun d => (rs.map (·.p) ++ (ownW xs a).map (·.p)).any fun p => memB (deedsL p) d), s, e, m⟩ :=
  ⟨hg, by rw [deeds_up u], min_up u h1 h2, max_up u h3 h4, dep_up u h5 h6 h7⟩

end
section
variable {P : Program} {w : World} {K : PySem.W.Frag} {mg : Str → Option Value} {base : Heap} {tabs : List Addr}
/-! ### trusts, rows -/
/-- a row of the right kinds -/
theorem ok_made (T : Txt K mg) (A : At K mg "_made_leave" s__made_leave ["row"]) : Cal P w K mg base 1 "_made_leave" (spW K tabs (liftF wMade)) := by
  refine A.of fun f fd F => fx_fnF F sc__made_leave (fun ds Q ⟨_, h, _⟩ => by rw [h]; rfl) fun cdv A outer s H E TT P0 σ0 hcd hr => ⟨_, (gss_cons (gs_asg (GE.of_pure (gp_var (pv 0))) (gg_tup (n := 6) rfl (ggs_cons (pg_name (i := 1) sc__made_leave.nd rfl (Or.inl rfl)) rfl (ggs_cons (pg_name (i := 2) sc__made_leave.nd rfl (Or.inl rfl)) rfl (ggs_cons (pg_name (i := 3) sc__made_leave.nd rfl (Or.inl rfl)) rfl (ggs_cons (pg_name (i := 4) sc__made_leave.nd rfl (Or.inl rfl)) rfl (ggs_cons (pg_name (i := 5) sc__made_leave.nd rfl (Or.inl rfl)) rfl (ggs_cons (pg_name (i := 6) sc__made_leave.nd rfl (Or.inl rfl)) rfl ggs_nil))))))))
      (gss_one (gs_ret (ge_tupD (gd_cons (GE.of_pure gp_int) (gd_cons (GE.of_pure (gp_k T.g_ROOM_NAME rfl)) (gd_cons (GE.of_pure (gp_var (pv 3))) (gd_cons (GE.of_pure (gp_var (pv 1))) (gd_cons (GE.of_pure (gp_var (pv 2))) (gd_cons (GE.of_pure (gp_var (pv 4))) (gd_cons (GE.of_pure (gp_var (pv 5))) (gd_cons (GE.of_pure (gp_var (pv 6))) (gd_cons (GE.of_pure gp_non) gd_nil))))))))))))), fun ds Q ⟨r, e, q⟩ => ?_⟩
  subst e
  refine x_start (e := [some (.f (.tup [.str r.g, .str r.h, r.p, .int r.s, .int r.u, .int r.k])), none, none, none, none, none, none]) rfl ?_
  walk_at "x"
  exact q
/-- such as a leave is -/
theorem ok_planned (T : Txt K mg) (c_is_leave : Cal P w K mg base 5 "is_leave" (spW K tabs (liftF wLeave))) (c__made_leave : Cal P w K mg base 1 "_made_leave" (spW K tabs (liftF wMade))) (A : At K mg "_is_planned" s__is_planned ["thing"]) :
    Cal P w K mg base 6 "_is_planned" (spW K tabs (liftF wPlanned)) := by
  refine A.of fun f fd F => fx_fnF F sc__is_planned (fun ds Q ⟨d, h, _⟩ => by rw [h]; rfl) fun cdv A outer s H E TT P0 σ0 hcd hr => ⟨_, (gss_one (gs_ret (ge_and (ge_cbB cax_isi (by rfl) T.z_isinstance (by decide +kernel) (gd_cons (GE.of_pure (gp_var (pv 0))) (gd_cons (GE.of_pure (gp_ty (n := "tuple") (by rfl) T.z_tuple (by decide +kernel))) gd_nil))) (ge_and (ge_cmp (opx_eq hr.units) (ge_cbB1 cax_len (by rfl) T.z_len (by decide +kernel) (pv 0)) (GE.of_pure gp_int) (nomark _)) (ge_one (ge_callF c_is_leave hr (by first | decide | omega) rfl rfl rfl mono_is_leave (gd_cons (ge_callF c__made_leave hr (by first | decide | omega) rfl rfl rfl mono__made_leave (gd_cons (GE.of_pure (gp_var (pv 0))) gd_nil)) gd_nil))))))), fun ds Q ⟨r, h, hw, k⟩ => ?_⟩
  subst h
  refine x_start (e := [some (.f (.tup [.str r.g, .str r.h, r.p, .int r.s, .int r.u, .int r.k]))]) rfl ?_
  walk_at "x"
  refine ⟨r, rfl, ?_⟩
  walk_at "x"
  have d4 := deeds4_tup hw.p
  refine ⟨_, rfl, ⟨nofun, fun es e x hx => ?_⟩, ?_⟩
  · cases e
    simp only [List.mem_cons, List.not_mem_nil, or_false] at hx
    rcases hx with rfl | rfl | rfl | rfl | rfl | rfl | rfl | rfl | rfl
    · rfl
    · decide +kernel
    · unfold part
      rw [d4.2.2.2.2, show okPy r.p = true from by rw [d4.1]; exact d4.2.2.1]
      rfl
    · exact part_str hw.g hw.gl
    · exact part_str hw.h hw.hl
    · rfl
    · rfl
    · rfl
    · rfl
  have e : leaveB (.tup [.int 0, .str "room", r.p, .str r.g, .str r.h, .int r.s, .int r.u, .int r.k, .non]) = formB r := by
    show (gezB (.int 0) && (nameB (.str "room") && (deedsB r.p && (nameB (.str r.g) && (nameB (.str r.h) && (!eqB (.str r.g) (.str r.h) && (spanB (.int r.s) (.int r.u) && (betwB (.int r.k) 0 6 && underB .non (.int 0))))))))) = _
    rw [show nameB (.str "room") = true by decide +kernel, eq_strs, show underB .non (.int 0) = true from rfl, Bool.and_true]
    rfl
  rw [e]
  walk_at "x"
  exact k
/-! ### ties, givers, wishes -/
theorem ok_hastie (T : Txt K mg) (A : At K mg "_has_tie" s__has_tie ["trust", "row"]) : Cal P w K mg base 1 "_has_tie" (spW K tabs (liftF wHasTie)) := by
  refine A.of fun f fd F => fx_fnF F sc__has_tie (fun ds Q ⟨_, _, _, _, h, _⟩ => by rw [h]; rfl) fun cdv A outer s H E TT P0 σ0 hcd hr => ⟨_, (gss_cons (gs_asg (ge_sl (GE.of_pure (gp_var (pv 1))) (go_some (GE.of_pure gp_int)) (go_some (GE.of_pure gp_int))) (gg_tup (n := 2) rfl (ggs_cons (pg_name (i := 2) sc__has_tie.nd rfl (Or.inr rfl)) rfl (ggs_cons (pg_name (i := 3) sc__has_tie.nd rfl (Or.inr rfl)) rfl ggs_nil))))
      (gss_cons (gs_lcFR1 (i := 4) (own := [("tie", 5)]) (t := .name 5) rfl sc__has_tie.nd rfl rfl (sw_true rfl rfl rfl (by decide +kernel)) (gi_tup (GE.of_pure (gp_ix ixx (gp_var (pv 0)) (gp_k T.g_TIES rfl) (fun _ _ => rfl)))) (blkOk_by (own := [("tie", 5)]) (N := ["trust", "row", "since", "until", "ties", "tie"]) (sc := defScope s__has_tie) (by decide +kernel)) (fun _ _ _ _ _ => (pg_name (i := 5) sc__has_tie.nd rfl (Or.inl rfl))) (fun _ _ _ _ _ => (gt_cmp (opx_eq hr.units) (ge_sl (GE.of_pure (gp_var (pv 5))) go_none (go_some (GE.of_pure gp_int))) (ge_sl (GE.of_pure (gp_var (pv 1))) go_none (go_some (GE.of_pure gp_int))) (nomark _))) (fun _ _ _ _ _ => (GE.of_pure (gp_var (pv 5)))) (by decide) (mem1 rfl) (mem1 (Nat.le_of_ble_eq_true rfl)))
      (gss_one (gs_ret (ge_cbB (cax_any rfl) (by rfl) T.z_any (by decide +kernel) (gd_cons (ge_frz (ge_lcR (own := [("tie", 5)]) (t := .name 5) rfl sc__has_tie.nd (gi_list (GE.of_pure (gp_var (pv 4)))) (blkOk_by (own := [("tie", 5)]) (N := ["trust", "row", "since", "until", "ties", "tie"]) (sc := defScope s__has_tie) (by decide +kernel)) (fun _ _ _ _ _ => (pg_name (i := 5) sc__has_tie.nd rfl (Or.inl rfl))) (fun _ _ _ _ _ => (ge_and (GE.of_pure (gp_cmp opx_le (gp_ix ixx (gp_var (pv 5)) gp_int (fun _ _ => rfl)) (gp_var (pv 2)) (nomark _))) (ge_one (GE.of_pure (gp_cmp opx_le (gp_var (pv 3)) (gp_ix ixx (gp_var (pv 5)) gp_int (fun _ _ => rfl)) (nomark _)))))) (by decide) (mem1 rfl) (mem1 (Nat.le_of_ble_eq_true rfl)))) gd_nil)))))), fun ds Q ⟨oo, ts, xs, r, e, tr, hw, q⟩ => ?_⟩
  subst e
  have tl := tr.tl
  refine x_start (e := [some (.f (.tup [.str oo, .tup (ts.map Ti.d), .tup (xs.map Wi.d)])), some (.f (.tup [.str r.g, .str r.h, r.p, .int r.s, .int r.u, .int r.k])), none, none, none, none]) rfl ?_
  walk_at "x"
  refine x_slT (ds' := [.int r.s, .int r.u]) rfl ?_
  walk_at "x"
  refine ⟨by rw [List.length_map]; omega, fun i acc e => acc = ((ts.take i).filter (hitT r)).map Ti.d ∧ ∃ x5, e = [some (.f (.tup [.str oo, .tup (ts.map Ti.d), .tup (xs.map Wi.d)])), some (.f (.tup [.str r.g, .str r.h, r.p, .int r.s, .int r.u, .int r.k])), some (.f (.int r.s)), some (.f (.int r.u)), none, x5], ⟨rfl, _, rfl⟩, ?_, ?_⟩
  · rintro i d acc e hd ⟨rfl, x5, rfl⟩
    rw [List.getElem?_map] at hd
    obtain ⟨t, ht, rfl⟩ := Option.map_eq_some_iff.mp hd
    have okt := tr.hts t (List.mem_of_getElem? ht)
    refine ⟨_, rfl, ?_⟩
    dsimp only [List.map_cons, List.map_nil, wipeE, setE, Tgt.js, List.set_cons_zero, List.set_cons_succ]
    rw [show t.d = .tup [.str t.a, .str t.b, .int t.s, .int t.u] from rfl]
    walk_at "x"
    refine x_slT (ds' := [.str t.a, .str t.b]) rfl ?_
    walk_at "x"
    refine x_slT (ds' := [.str r.g, .str r.h]) rfl ?_
    walk_at "x"
    refine x_eqD (pair_ok (name_cp okt.a) (name_cp okt.b)) (pair_ok hw.g hw.h) ?_
    rw [eqB_pair]
    walk_at "x"
    have sn : (ts.take (i + 1)).filter (hitT r) = (ts.take i).filter (hitT r) ++ [t].filter (hitT r) := by rw [take_snoc ht, List.filter_append]
    cases hc : ((t.a == r.g) && (t.b == r.h)) with
    | true =>
      rw [if_pos rfl]
      rw [show [t].filter (hitT r) = [t] by rw [List.filter_cons, if_pos (show hitT r t = true from hc)]; rfl] at sn
      walk_at "x"
      exact ⟨by rw [sn, List.map_append]; rfl, _, rfl⟩
    | false =>
      rw [if_neg Bool.false_ne_true]
      rw [show [t].filter (hitT r) = [] by rw [List.filter_cons, if_neg (by rw [show hitT r t = false from hc]; decide)]; rfl, List.append_nil] at sn
      exact ⟨by rw [sn], _, rfl⟩
  rintro acc e ⟨rfl, x5, rfl⟩
  rw [List.length_map, List.take_length]
  have fl : (ts.filter (hitT r)).length ≤ 20 := Nat.le_trans (List.length_filter_le ..) tl
  unfold tieV at q
  generalize ts.filter (hitT r) = fs at fl q
  try dsimp only [List.map_cons, List.map_nil, wipeE, List.set_cons_zero, List.set_cons_succ]
  walk_at "x"
  refine ⟨by rw [List.length_map]; omega, fun i acc e => acc = ((fs.take i).map (inT r)).map D.bl ∧ ∃ x5, e = [some (.f (.tup [.str oo, .tup (ts.map Ti.d), .tup (xs.map Wi.d)])), some (.f (.tup [.str r.g, .str r.h, r.p, .int r.s, .int r.u, .int r.k])), some (.f (.int r.s)), some (.f (.int r.u)), some (.f (.lst (fs.map Ti.d))), x5], ⟨rfl, _, rfl⟩, ?_, ?_⟩
  · rintro i d acc e hd ⟨rfl, x5, rfl⟩
    rw [List.getElem?_map] at hd
    obtain ⟨t, ht, rfl⟩ := Option.map_eq_some_iff.mp hd
    refine ⟨_, rfl, ?_⟩
    dsimp only [List.map_cons, List.map_nil, wipeE, setE, Tgt.js, List.set_cons_zero, List.set_cons_succ]
    rw [show t.d = .tup [.str t.a, .str t.b, .int t.s, .int t.u] from rfl]
    walk_at "x"
    refine x_ite (fun h3 => ?_) (fun h3 => ?_)
    · walk_at "x"
      exact ⟨by rw [take_snoc ht, List.map_append, List.map_append]; show _ = _ ++ [D.bl (decide (t.s ≤ r.s) && decide (r.u ≤ t.u))]; rw [h3, Bool.true_and], _, rfl⟩
    · walk_at "x"
      exact ⟨by rw [take_snoc ht, List.map_append, List.map_append]; show _ = _ ++ [D.bl (decide (t.s ≤ r.s) && decide (r.u ≤ t.u))]; rw [h3, Bool.false_and], _, rfl⟩
  rintro acc e ⟨rfl, x5, rfl⟩
  rw [List.length_map, List.take_length]
  try dsimp only [List.map_cons, List.map_nil, wipeE, List.set_cons_zero, List.set_cons_succ]
  walk_at "x"
  refine x_any ?_
  rw [List.any_map, show (id ∘ inT r) = inT r from rfl]
  walk_at "x"
  exact q
/-! ### which leaves lie within which -/
theorem ok_lies {c Pn : Addr} (in_lies_within : Pn ∈ tabs) (T : Txt K mg) (tb_lies_within : GxR.TabB base mg c Pn) (A : AtC K mg "lies_within" s_lies_within ["leave", "other"] c) : Cal P w K mg base 2 "lies_within" (spW K tabs (liftF wLies)) := by
  refine A.of fun f fd F hc => fx_fnF F sc_lies_within (fun ds Q ⟨_, _, _, _, _, _, _, _, _, _, _, _, _, _, _, _, _, _, _, h, _⟩ => by rw [h]; rfl) fun cdv A outer s H E TT P0 σ0 hcd hr => ?_
  obtain rfl : cdv = .ref c := hcd.symm.trans hc
  refine ⟨_, (gss_one (gs_ret (ge_and (GE.of_pure (gp_cmp (opx_eq hr.units) (gp_ix ixx (gp_var (pv 1)) (gp_k T.g_ROOM rfl) (fun _ _ => rfl)) (gp_ix ixx (gp_var (pv 0)) (gp_k T.g_ROOM rfl) (fun _ _ => rfl)) (nomark _))) (ge_and (ge_allX (cs := [1]) tb_lies_within hr rfl T.z_all rfl (genSF (fr := ["other"]) (by decide +kernel) (fun y hy => by simp only [List.mem_cons, List.not_mem_nil, or_false] at hy; rcases hy with rfl <;> exact L2.cell_has (by decide +kernel))) (fun j hj => by simp only [List.mem_cons, List.not_mem_nil, or_false] at hj; rcases hj with rfl <;> exact ⟨_, rfl, rfl, .inl rfl⟩) (show (gN (["leave", "other"] : List Str) "deed" [1]).Nodup by decide +kernel) (gi_tup (GE.of_pure (gp_ix ixx (gp_var (pv 0)) (gp_k T.g_DEEDS rfl) (fun _ _ => rfl)))) (fun s4 H1 C cl cd A' fp pn T0 H0 σ0 hr => (GE.of_pure (gp_cmp (opx_in hr.u65) (gp_var (pv 1)) (gp_ix ixx (gp_var (pv 2)) (gp_k T.g_DEEDS rfl) (fun _ _ => rfl)) (by rfl)))) (fun _ => rfl) in_lies_within) (ge_and (GE.of_pure (gp_cmp opx_le (gp_ix ixx (gp_var (pv 1)) (gp_k T.g_SINCE rfl) (fun _ _ => rfl)) (gp_ix ixx (gp_var (pv 0)) (gp_k T.g_SINCE rfl) (fun _ _ => rfl)) (nomark _))) (ge_and (GE.of_pure (gp_cmp opx_ge (gp_ix ixx (gp_var (pv 1)) (gp_k T.g_UNTIL rfl) (fun _ _ => rfl)) (gp_ix ixx (gp_var (pv 0)) (gp_k T.g_UNTIL rfl) (fun _ _ => rfl)) (nomark _))) (ge_and (GE.of_pure (gp_cmp opx_gt (gp_ix ixx (gp_var (pv 1)) (gp_k T.g_PASSES rfl) (fun _ _ => rfl)) (gp_ix ixx (gp_var (pv 0)) (gp_k T.g_PASSES rfl) (fun _ _ => rfl)) (nomark _))) (ge_one (GE.of_pure (gp_cmp (opx_eq hr.units) (gp_ix ixx (gp_var (pv 1)) (gp_k T.g_HOLDER rfl) (fun _ _ => rfl)) (gp_ix ixx (gp_var (pv 0)) (gp_k T.g_GIVER rfl) (fun _ _ => rfl)) (nomark _))))))))))), fun ds Q ⟨n, r, dd, g, h, s, u, p, v, n', r', ee, g', h', s', u', p', v', gs, a1, a2, a3, a4, a5, a6, a7, a8, k⟩ => ?_⟩
  subst a1 a2
  refine x_start (e := [some (.f (.tup [n, .str r, .tup dd, .str gs, h, .int s, .int u, .int p, v])), some (.f (.tup [n', .str r', .tup ee, g', .str h', .int s', .int u', .int p', v']))]) rfl ?_
  walk_at "x"
  refine x_eqD (okPy_str a4) (okPy_str a3) ?_
  cases e1 : eqB (.str r') (.str r) with
  | false =>
    rw [e1, Bool.false_and] at k
    walk_at "x"
    exact k
  | true =>
    rw [e1, Bool.true_and] at k
    walk_at "x"
    refine ⟨memB ee, fun d hd => ?_, ?_⟩
    · show wBinP _ _ _ [none, some (.f d), some (.f (.tup [n', .str r', .tup ee, g', .str h', .int s', .int u', .int p', v']))] _
      walk_at "x"
      exact x_inT (a7 d hd) a8 rfl
    refine ⟨_, rfl, ?_⟩
    rw [show qAll true dd (memB ee) = dd.all (memB ee) from rfl]
    refine x_ite (fun h1 => ?_) (fun h1 => ?_)
    · rw [h1, Bool.true_and] at k
      walk_at "x"
      refine x_ite (fun h2 => ?_) (fun h2 => ?_)
      · rw [h2, Bool.true_and] at k
        walk_at "x"
        refine x_ite (fun h3 => ?_) (fun h3 => ?_)
        · rw [show decide (u ≤ u') = true from h3, Bool.true_and] at k
          walk_at "x"
          refine x_ite (fun h4 => ?_) (fun h4 => ?_)
          · rw [show decide (p < p') = true from h4, Bool.true_and] at k
            walk_at "x"
            refine x_eqD (okPy_str a6) (okPy_str a5) ?_
            walk_at "x"
            exact k
          · rw [show decide (p < p') = false from h4, Bool.false_and] at k
            walk_at "x"
            exact k
        · rw [show decide (u ≤ u') = false from h3, Bool.false_and] at k
          walk_at "x"
          exact k
      · rw [h2, Bool.false_and] at k
        walk_at "x"
        exact k
    · rw [h1, Bool.false_and] at k
      walk_at "x"
      exact k
/-! ### givers, wishes -/
def withinV (r o : Rw) : Bool := ((deedsL r.p).all (memB (deedsL o.p))) && (decide (o.s ≤ r.s) && (decide (r.u ≤ o.u) && (decide (r.k < o.k) && (o.h == r.g))))
def giverV (oo : Str) (rs : List Rw) (r : Rw) : Bool := (r.g == oo) || rs.any (withinV r)
def wHasGiver : WFn := fun ds Q => ∃ (oo : Str) (ts : List Ti) (xs : List Wi) (rs : List Rw) (r : Rw), ds = [trustD oo ts xs, .tup (rs.map Rw.d), r.d] ∧ TrOk oo ts xs ∧ (∀ o ∈ rs, o.W) ∧ rs.length ≤ 100 ∧ r.W ∧ Q (.f (.bl (giverV oo rs r)))
theorem mono__has_giver : MonoF wHasGiver := fun ds Q Q' i ⟨oo, ts, xs, rs, r, h1, h2, h3, h4, h5, q⟩ => ⟨oo, ts, xs, rs, r, h1, h2, h3, h4, h5, i _ q⟩
theorem ok_hasgiver (T : Txt K mg) (c_lies_within : Cal P w K mg base 2 "lies_within" (spW K tabs (liftF wLies))) (c__made_leave : Cal P w K mg base 1 "_made_leave" (spW K tabs (liftF wMade))) (A : At K mg "_has_giver" s__has_giver ["trust", "plan", "row"]) :
    Cal P w K mg base 3 "_has_giver" (spW K tabs (liftF wHasGiver)) := by
  refine A.of fun f fd F => fx_fnF F sc__has_giver (fun ds Q ⟨_, _, _, _, _, h, _⟩ => by rw [h]; rfl) fun cdv A outer s H E TT P0 σ0 hcd hr => ⟨_, (gss_cons (gs_if (gt_cmpP (opx_eq hr.units) (gp_ix ixx (gp_var (pv 2)) gp_int (fun _ _ => rfl)) (gp_ix ixx (gp_var (pv 0)) (gp_k T.g_OWNER rfl) (fun _ _ => rfl)) (nomark _))
      (gss_one (gs_ret (GE.of_pure gp_bl)))
      gss_nil)
      (gss_one (gs_ret (ge_cbB (cax_any rfl) (by rfl) T.z_any (by decide +kernel) (gd_cons (ge_frz (ge_lcR (own := [("other", 3)]) (t := .name 3) rfl sc__has_giver.nd (gi_tup (GE.of_pure (gp_var (pv 1)))) (blkOk_by (own := [("other", 3)]) (N := ["trust", "plan", "row", "other"]) (sc := defScope s__has_giver) (by decide +kernel)) (fun _ _ _ _ _ => (pg_name (i := 3) sc__has_giver.nd rfl (Or.inl rfl))) (fun _ _ _ _ _ => (ge_callF c_lies_within hr (by first | decide | omega) rfl rfl rfl mono_lies_within (gd_cons (ge_callF c__made_leave hr (by first | decide | omega) rfl rfl rfl mono__made_leave (gd_cons (GE.of_pure (gp_var (pv 2))) gd_nil)) (gd_cons (ge_callF c__made_leave hr (by first | decide | omega) rfl rfl rfl mono__made_leave (gd_cons (GE.of_pure (gp_var (pv 3))) gd_nil)) gd_nil)))) (by decide) (mem1 rfl) (mem1 (Nat.le_of_ble_eq_true rfl)))) gd_nil))))), fun ds Q ⟨oo, ts, xs, rs, r, e, tr, hrs, hl, hw, q⟩ => ?_⟩
  subst e
  refine x_start (e := [some (.f (.tup [.str oo, .tup (ts.map Ti.d), .tup (xs.map Wi.d)])), some (.f (.tup (rs.map Rw.d))), some (.f (.tup [.str r.g, .str r.h, r.p, .int r.s, .int r.u, .int r.k])), none]) rfl ?_
  walk_at "x"
  refine x_eqD (okPy_str hw.g) (okPy_str (name_cp tr.hoo)) ?_
  rw [eq_strs]
  unfold giverV at q
  cases hc : r.g == oo with
  | true =>
    rw [hc, Bool.true_or] at q
    walk_at "x"
    exact q
  | false =>
    rw [hc, Bool.false_or] at q
    walk_at "x"
    refine ⟨by rw [List.length_map]; omega, fun i acc e => acc = ((rs.take i).map (withinV r)).map D.bl ∧ ∃ x3, e = [some (.f (.tup [.str oo, .tup (ts.map Ti.d), .tup (xs.map Wi.d)])), some (.f (.tup (rs.map Rw.d))), some (.f (.tup [.str r.g, .str r.h, r.p, .int r.s, .int r.u, .int r.k])), x3], ⟨rfl, _, rfl⟩, ?_, ?_⟩
    · rintro i d acc e hd ⟨rfl, x3, rfl⟩
      rw [List.getElem?_map] at hd
      obtain ⟨o, ho, rfl⟩ := Option.map_eq_some_iff.mp hd
      have ow := hrs o (List.mem_of_getElem? ho)
      have d1 := deeds4_tup hw.p
      have d2 := deeds4_tup ow.p
      refine ⟨_, rfl, ?_⟩
      dsimp only [List.map_cons, List.map_nil, wipeE, setE, Tgt.js, List.set_cons_zero, List.set_cons_succ]
      walk_at "x"
      refine ⟨r, rfl, ?_⟩
      walk_at "x"
      refine ⟨o, rfl, ?_⟩
      walk_at "x"
      refine ⟨.int 0, "room", deedsL r.p, .str r.g, .str r.h, r.s, r.u, r.k, .non, .int 0, "room", deedsL o.p, .str o.g, o.h, o.s, o.u, o.k, .non, r.g, by rw [← d1.1, ← d2.1], rfl, by decide +kernel, by decide +kernel, hw.g, ow.h, d1.2.1, d2.2.2.1, ?_⟩
      rw [eq_strs, eq_strs, beq_self_eq_true, Bool.true_and]
      walk_at "x"
      exact ⟨by rw [take_snoc ho, List.map_append, List.map_append]; rfl, _, rfl⟩
    rintro acc e ⟨rfl, x3, rfl⟩
    rw [List.length_map, List.take_length]
    try dsimp only [List.map_cons, List.map_nil, wipeE, List.set_cons_zero, List.set_cons_succ]
    walk_at "x"
    refine x_any ?_
    rw [List.any_map, show (id ∘ withinV r) = withinV r from rfl]
    walk_at "x"
    exact q
def fitV (x : Wi) (r : Rw) : Bool := decide (r.s ≤ x.s) && (decide (x.u ≤ r.u) && (deedsL x.p).all (memB (deedsL r.p)))
def grantV (x : Wi) : List Rw → Bool
  | [] => false
  | r :: rs => if r.h = x.a then fitV x r else grantV x rs
theorem grant_drop {x : Wi} : ∀ {rs : List Rw} {i : Nat}, (∀ j r, j < i → rs[j]? = some r → r.h ≠ x.a) → i ≤ rs.length → grantV x rs = grantV x (rs.drop i)
  | rs, 0, _, _ => rfl
  | [], i + 1, _, h => absurd h (by simp)
  | r :: rs, i + 1, hj, h => by
    have e : grantV x (r :: rs) = grantV x rs := if_neg (hj 0 r (Nat.succ_pos _) rfl)
    rw [e]
    exact grant_drop (i := i) (fun j r h1 h2 => hj (j + 1) r (Nat.succ_lt_succ h1) h2) (Nat.le_of_succ_le_succ h)
def wGranted : WFn := fun ds Q => ∃ (rs : List Rw) (x : Wi), ds = [.tup (rs.map Rw.d), x.d] ∧ x.Ok ∧ (∀ r ∈ rs, r.W) ∧ Q (.f (.bl (grantV x rs)))
theorem mono__is_granted : MonoF wGranted := fun ds Q Q' i ⟨rs, x, h1, h2, h3, q⟩ => ⟨rs, x, h1, h2, h3, i _ q⟩
theorem ok_granted (T : Txt K mg) (A : At K mg "_is_granted" s__is_granted ["plan", "wish"]) : Cal P w K mg base 1 "_is_granted" (spW K tabs (liftF wGranted)) := by
  refine A.of fun f fd F => fx_fnF F sc__is_granted (fun ds Q ⟨_, _, h, _⟩ => by rw [h]; rfl) fun cdv A outer s H E TT P0 σ0 hcd hr => ⟨_, (gss_cons (gs_asg (GE.of_pure (gp_var (pv 1))) (gg_tup (n := 4) rfl (ggs_cons (pg_name (i := 2) sc__is_granted.nd rfl (Or.inl rfl)) rfl (ggs_cons (pg_name (i := 3) sc__is_granted.nd rfl (Or.inl rfl)) rfl (ggs_cons (pg_name (i := 4) sc__is_granted.nd rfl (Or.inl rfl)) rfl (ggs_cons (pg_name (i := 5) sc__is_granted.nd rfl (Or.inl rfl)) rfl ggs_nil))))))
      (gss_cons (gs_for PassesOwn.never rfl (gi_tup (GE.of_pure (gp_var (pv 0)))) (gg_tup (n := 6) rfl (ggs_cons (pg_name (i := 6) sc__is_granted.nd rfl (Or.inl rfl)) rfl (ggs_cons (pg_name (i := 7) sc__is_granted.nd rfl (Or.inl rfl)) rfl (ggs_cons (pg_name (i := 8) sc__is_granted.nd rfl (Or.inr rfl)) rfl (ggs_cons (pg_name (i := 9) sc__is_granted.nd rfl (Or.inl rfl)) rfl (ggs_cons (pg_name (i := 10) sc__is_granted.nd rfl (Or.inl rfl)) rfl (ggs_cons (pg_name (i := 6) sc__is_granted.nd rfl (Or.inl rfl)) rfl ggs_nil)))))))
      (gss_one (gs_if (gt_cmpP (opx_eq hr.units) (gp_var (pv 7)) (gp_var (pv 2)) (nomark _))
      (gss_one (gs_ret (ge_and (GE.of_pure (gp_cmp opx_le (gp_var (pv 9)) (gp_var (pv 4)) (nomark _))) (ge_and (GE.of_pure (gp_cmp opx_le (gp_var (pv 5)) (gp_var (pv 10)) (nomark _))) (ge_one (ge_cbB (cax_all rfl) (by rfl) T.z_all (by decide +kernel) (gd_cons (ge_frz (ge_lcR (own := [("deed", 11)]) (t := .name 11) rfl sc__is_granted.nd (gi_tup (GE.of_pure (gp_var (pv 3)))) (blkOk_by (own := [("deed", 11)]) (N := ["plan", "wish", "actor", "deeds", "since", "until", "_", "holder", "granted", "first", "last", "deed"]) (sc := defScope s__is_granted) (by decide +kernel)) (fun _ _ _ _ _ => (pg_name (i := 11) sc__is_granted.nd rfl (Or.inl rfl))) (fun _ _ _ _ _ => (GE.of_pure (gp_cmp (opx_in hr.u65) (gp_var (pv 11)) (gp_var (pv 8)) (by rfl)))) (by decide) (mem1 rfl) (mem1 (Nat.le_of_ble_eq_true rfl)))) gd_nil)))))))
      gss_nil)))
      (gss_one (gs_ret (GE.of_pure gp_bl))))), fun ds Q ⟨rs, x, e, hx, hrs, q⟩ => ?_⟩
  subst e
  obtain ⟨xa, xp, xs', xu⟩ := x
  have dx := deeds4_tup (deeds_four hx.p)
  have hxa : nameB (.str xa) = true := hx.a
  obtain ⟨xd, rfl⟩ : ∃ xd, xp = .tup xd := ⟨_, dx.1⟩
  have dx2 : ∀ d ∈ xd, okPy d = true := dx.2.1
  have dx3 : xd.length ≤ 2 := dx.2.2.2.1
  refine x_start (e := [some (.f (.tup (rs.map Rw.d))), some (.f (.tup [.str xa, .tup xd, .int xs', .int xu])), none, none, none, none, none, none, none, none, none, none]) rfl ?_
  walk_at "x"
  refine ⟨fun i e => (∀ j r, j < i → rs[j]? = some r → r.h ≠ xa) ∧ ∃ x6 x7 x8 x9 x10, e = [some (.f (.tup (rs.map Rw.d))), some (.f (.tup [.str xa, .tup xd, .int xs', .int xu])), some (.f (.str xa)), some (.f (.tup xd)), some (.f (.int xs')), some (.f (.int xu)), x6, x7, x8, x9, x10, none], ⟨fun j y h => absurd h (Nat.not_lt_zero _), _, _, _, _, _, rfl⟩, ?_, ?_⟩
  · rintro i d e hd ⟨hj, x6, x7, x8, x9, x10, rfl⟩
    rw [List.getElem?_map] at hd
    obtain ⟨r, hr0, rfl⟩ := Option.map_eq_some_iff.mp hd
    have rw_ := hrs r (List.mem_of_getElem? hr0)
    have dr := deeds4_tup rw_.p
    obtain ⟨hi, er⟩ := List.getElem?_eq_some_iff.mp hr0
    obtain ⟨rg, rh, rp, rs', ru, rk⟩ := r
    obtain ⟨rd, rfl⟩ : ∃ rd, rp = .tup rd := ⟨_, dr.1⟩
    have dr3 : okPy (.tup rd) = true := dr.2.2.1
    rw [show Rw.d { g := rg, h := rh, p := .tup rd, s := rs', u := ru, k := rk } = .tup [.str rg, .str rh, .tup rd, .int rs', .int ru, .int rk] from rfl]
    walk_at "x"
    refine x_eqD (okPy_str rw_.h) (okPy_str (name_cp hxa)) ?_
    rw [eq_strs]
    cases hb : rh == xa with
    | true =>
      rw [grant_drop hj (Nat.le_of_lt hi), List.drop_eq_getElem_cons hi, er, show grantV ⟨xa, .tup xd, xs', xu⟩ (⟨rg, rh, .tup rd, rs', ru, rk⟩ :: rs.drop (i + 1)) = fitV ⟨xa, .tup xd, xs', xu⟩ ⟨rg, rh, .tup rd, rs', ru, rk⟩ from if_pos (eq_of_beq hb)] at q
      have q : Q (.f (.bl (decide (rs' ≤ xs') && (decide (xu ≤ ru) && xd.all (memB rd))))) := q
      walk_at "x"
      refine x_ite (fun h1 => ?_) (fun h1 => ?_)
      · rw [h1, Bool.true_and] at q
        walk_at "x"
        refine x_ite (fun h2 => ?_) (fun h2 => ?_)
        · rw [h2, Bool.true_and] at q
          walk_at "x"
          refine ⟨by omega, fun j acc e => acc = ((xd.take j).map (memB rd)).map D.bl ∧ ∃ x11, e = [some (.f (.tup (rs.map Rw.d))), some (.f (.tup [.str xa, .tup xd, .int xs', .int xu])), some (.f (.str xa)), some (.f (.tup xd)), some (.f (.int xs')), some (.f (.int xu)), some (.f (.int rk)), some (.f (.str rh)), some (.f (.tup rd)), some (.f (.int rs')), some (.f (.int ru)), x11], ⟨rfl, _, rfl⟩, ?_, ?_⟩
          · rintro j d acc e hd2 ⟨rfl, x11, rfl⟩
            refine ⟨_, rfl, ?_⟩
            dsimp only [List.map_cons, List.map_nil, wipeE, setE, Tgt.js, List.set_cons_zero, List.set_cons_succ]
            walk_at "x"
            refine x_inT (dx2 d (List.mem_of_getElem? hd2)) dr3 ?_
            walk_at "x"
            exact ⟨by rw [take_snoc hd2, List.map_append, List.map_append]; rfl, _, rfl⟩
          rintro acc e ⟨rfl, x11, rfl⟩
          rw [List.take_length]
          try dsimp only [List.map_cons, List.map_nil, wipeE, List.set_cons_zero, List.set_cons_succ]
          walk_at "x"
          refine x_all ?_
          rw [List.all_map, show (id ∘ memB rd) = memB rd from rfl]
          walk_at "x"
          exact q
        · rw [h2, Bool.false_and] at q
          walk_at "x"
          exact q
      · rw [h1, Bool.false_and] at q
        walk_at "x"
        exact q
    | false =>
      walk_at "x"
      refine ⟨fun j y hj2 hy2 => ?_, _, _, _, _, _, rfl⟩
      rcases Nat.lt_succ_iff_lt_or_eq.mp hj2 with l | l
      · exact hj j y l hy2
      · subst l
        rw [hr0] at hy2
        cases hy2
        exact fun e => by rw [show rh = xa from e, beq_self_eq_true] at hb; cases hb
  rintro e ⟨hj, x6, x7, x8, x9, x10, rfl⟩
  rw [List.length_map] at hj
  rw [grant_drop hj (Nat.le_refl _), List.drop_length] at q
  walk_at "x"
  exact q
/-! ### plans -/
def risB (hs : List Str) : Bool := sortedS hs && decide hs.Nodup
theorem ris_ne {hs ys : List Str} (n : ys.Nodup) (s : sortedS ys = true) (m : ∀ y, y ∈ ys ↔ y ∈ hs) : (hs == ys) = risB hs := by
  cases h : risB hs with
  | true =>
    obtain ⟨h1, h2⟩ := Bool.and_eq_true_iff.mp (show (sortedS hs && decide hs.Nodup) = true from h)
    rw [sorted_uniq h1 s (perm_of_mem (of_decide_eq_true h2) n fun y => (m y).symm), beq_self_eq_true]
  | false =>
    refine beq_false_of_ne fun e => ?_
    subst e
    rw [show risB hs = (sortedS hs && decide hs.Nodup) from rfl, s, decide_eq_true n] at h
    cases h
def planV (oo : Str) (ts : List Ti) (xs : List Wi) (rs : List Rw) : Bool := rs.all formB && ((risB (rs.map (·.h)) && !(rs.map (·.h)).contains oo) && (rs.all (fun r => tieV ts r && giverV oo rs r) && xs.all (fun x => grantV x rs)))
theorem all_map_id {α : Type} {f : α → Bool} {l : List α} : (l.map f).all id = l.all f := by rw [List.all_map]; rfl
theorem hs_str {rs : List Rw} (h : ∀ r ∈ rs, r.W) : ∀ x ∈ rs.map (·.h), PyData.strOk x = true := fun x hx => by
  obtain ⟨y, hy, rfl⟩ := List.mem_map.mp hx
  exact (h y hy).h
def wPlan : WFn := fun ds Q => ∃ (oo : Str) (ts : List Ti) (xs : List Wi) (rs : List Rw), ds = [trustD oo ts xs, .tup (rs.map Rw.d)] ∧ TrOk oo ts xs ∧ (∀ r ∈ rs, r.W) ∧ rs.length ≤ 60 ∧ Q (.f (.bl (planV oo ts xs rs)))
theorem mono_is_plan : MonoF wPlan := fun ds Q Q' i ⟨oo, ts, ws, rs, h1, h2, h3, h4, q⟩ => ⟨oo, ts, ws, rs, h1, h2, h3, h4, i _ q⟩
theorem ok_plan (T : Txt K mg) (c__is_planned : Cal P w K mg base 6 "_is_planned" (spW K tabs (liftF wPlanned))) (c__has_tie : Cal P w K mg base 1 "_has_tie" (spW K tabs (liftF wHasTie))) (c__has_giver : Cal P w K mg base 3 "_has_giver" (spW K tabs (liftF wHasGiver)))
    (c__is_granted : Cal P w K mg base 1 "_is_granted" (spW K tabs (liftF wGranted))) (A : At K mg "is_plan" s_is_plan ["trust", "thing"]) : Cal P w K mg base 7 "is_plan" (spW K tabs (liftF wPlan)) := by
  refine A.of fun f fd F => fx_fnF F sc_is_plan (fun ds Q ⟨_, _, _, _, h, _⟩ => by rw [h]; rfl) fun cdv A outer s H E TT P0 σ0 hcd hr => ⟨_, (gss_cons (gs_if (GW.gt (gw_or (gt_not (gt_tru (ge_cbB cax_isi (by rfl) T.z_isinstance (by decide +kernel) (gd_cons (GE.of_pure (gp_var (pv 1))) (gd_cons (GE.of_pure (gp_ty (n := "tuple") (by rfl) T.z_tuple (by decide +kernel))) gd_nil))))) (gw_or1 (gt_not (gt_tru (ge_cbB (cax_all rfl) (by rfl) T.z_all (by decide +kernel) (gd_cons (ge_frz (ge_lcR (own := [("part", 2)]) (t := .name 2) rfl sc_is_plan.nd (gi_tup (GE.of_pure (gp_var (pv 1)))) (blkOk_by (own := [("part", 2)]) (N := ["trust", "thing", "part", "holders", "row", "wish"]) (sc := defScope s_is_plan) (by decide +kernel)) (fun _ _ _ _ _ => (pg_name (i := 2) sc_is_plan.nd rfl (Or.inl rfl))) (fun _ _ _ _ _ => (ge_callF c__is_planned hr (by first | decide | omega) rfl rfl rfl mono__is_planned (gd_cons (GE.of_pure (gp_var (pv 2))) gd_nil))) (by decide) (mem1 rfl) (mem1 (Nat.le_of_ble_eq_true rfl)))) gd_nil)))))))
      (gss_one (gs_ret (GE.of_pure gp_bl)))
      gss_nil)
      (gss_cons (gs_lcFR (i := 3) (own := [("row", 4)]) (t := .name 4) rfl sc_is_plan.nd rfl rfl (sw_true rfl rfl rfl (by decide +kernel)) (gi_tup (GE.of_pure (gp_var (pv 1)))) (blkOk_by (own := [("row", 4)]) (N := ["trust", "thing", "part", "holders", "row", "wish"]) (sc := defScope s_is_plan) (by decide +kernel)) (fun _ _ _ _ _ => (pg_name (i := 4) sc_is_plan.nd rfl (Or.inl rfl))) (fun _ _ _ _ _ => (GE.of_pure (gp_ix ixx (gp_var (pv 4)) gp_int (fun _ _ => rfl)))) (by decide) (mem1 rfl) (mem1 (Nat.le_of_ble_eq_true rfl)))
      (gss_cons (gs_if (GW.gt (gw_or (gt_cmp (opx_ne hr.units) (GE.of_pure (gp_var (pv 3))) (ge_sortedSets rfl (by rfl) T.z_sorted (by rfl) T.z_set (GE.of_pure (gp_var (pv 3)))) (nomark _)) (gw_or1 (gt_cmpP (opx_in hr.u65) (gp_ix ixx (gp_var (pv 0)) (gp_k T.g_OWNER rfl) (fun _ _ => rfl)) (gp_var (pv 3)) (by rfl)))))
      (gss_one (gs_ret (GE.of_pure gp_bl)))
      gss_nil)
      (gss_cons (gs_if (gt_not (gt_tru (ge_cbB (cax_all rfl) (by rfl) T.z_all (by decide +kernel) (gd_cons (ge_frz (ge_lcR (own := [("row", 4)]) (t := .name 4) rfl sc_is_plan.nd (gi_tup (GE.of_pure (gp_var (pv 1)))) (blkOk_by (own := [("row", 4)]) (N := ["trust", "thing", "part", "holders", "row", "wish"]) (sc := defScope s_is_plan) (by decide +kernel)) (fun _ _ _ _ _ => (pg_name (i := 4) sc_is_plan.nd rfl (Or.inl rfl))) (fun _ _ _ _ _ => (ge_and (ge_callF c__has_tie hr (by first | decide | omega) rfl rfl rfl mono__has_tie (gd_cons (GE.of_pure (gp_var (pv 0))) (gd_cons (GE.of_pure (gp_var (pv 4))) gd_nil))) (ge_one (ge_callF c__has_giver hr (by first | decide | omega) rfl rfl rfl mono__has_giver (gd_cons (GE.of_pure (gp_var (pv 0))) (gd_cons (GE.of_pure (gp_var (pv 1))) (gd_cons (GE.of_pure (gp_var (pv 4))) gd_nil))))))) (by decide) (mem1 rfl) (mem1 (Nat.le_of_ble_eq_true rfl)))) gd_nil))))
      (gss_one (gs_ret (GE.of_pure gp_bl)))
      gss_nil)
      (gss_one (gs_ret (ge_cbB (cax_all rfl) (by rfl) T.z_all (by decide +kernel) (gd_cons (ge_frz (ge_lcR (own := [("wish", 5)]) (t := .name 5) rfl sc_is_plan.nd (gi_tup (GE.of_pure (gp_ix ixx (gp_var (pv 0)) (gp_k T.g_WISHES rfl) (fun _ _ => rfl)))) (blkOk_by (own := [("wish", 5)]) (N := ["trust", "thing", "part", "holders", "row", "wish"]) (sc := defScope s_is_plan) (by decide +kernel)) (fun _ _ _ _ _ => (pg_name (i := 5) sc_is_plan.nd rfl (Or.inl rfl))) (fun _ _ _ _ _ => (ge_callF c__is_granted hr (by first | decide | omega) rfl rfl rfl mono__is_granted (gd_cons (GE.of_pure (gp_var (pv 1))) (gd_cons (GE.of_pure (gp_var (pv 5))) gd_nil)))) (by decide) (mem1 rfl) (mem1 (Nat.le_of_ble_eq_true rfl)))) gd_nil)))))))), fun ds Q ⟨oo, ts, xs, rs, e, hp, hrs, hl, q⟩ => ?_⟩
  subst e
  have hl' : (rs.map Rw.d).length ≤ 60 := by rw [List.length_map]; exact hl
  refine x_start (e := [some (.f (.tup [.str oo, .tup (ts.map Ti.d), .tup (xs.map Wi.d)])), some (.f (.tup (rs.map Rw.d))), none, none, none, none]) rfl ?_
  unfold planV at q
  walk_at "x"
  refine ⟨by omega, fun i acc e => acc = ((rs.take i).map formB).map D.bl ∧ ∃ x2, e = ([some (.f (.tup [.str oo, .tup (ts.map Ti.d), .tup (xs.map Wi.d)])), some (.f (.tup (rs.map Rw.d))), none, none, none, none] : Fx.Env).set 2 x2, ⟨rfl, none, rfl⟩, ?_, ?_⟩
  · rintro i d acc e hd ⟨rfl, x2, rfl⟩
    rw [List.getElem?_map] at hd
    obtain ⟨r, hr0, rfl⟩ := Option.map_eq_some_iff.mp hd
    refine ⟨_, rfl, ?_⟩
    dsimp only [List.map_cons, List.map_nil, wipeE, setE, Tgt.js, List.set_cons_zero, List.set_cons_succ]
    walk_at "x"
    refine ⟨r, rfl, hrs r (List.mem_of_getElem? hr0), ?_⟩
    walk_at "x"
    exact ⟨by rw [take_snoc hr0, List.map_append, List.map_append]; rfl, _, rfl⟩
  rintro acc e ⟨rfl, x2, rfl⟩
  rw [List.length_map, List.take_length]
  dsimp only [List.map_cons, List.map_nil, wipeE, List.set_cons_zero, List.set_cons_succ]
  walk_at "x"
  refine x_all ?_
  rw [all_map_id]
  cases h1 : rs.all formB with
  | false =>
    rw [h1, Bool.false_and] at q
    walk_at "x"
    exact q
  | true =>
    rw [h1, Bool.true_and] at q
    walk_at "x"
    try dsimp only [List.map_cons, List.map_nil, wipeE, List.set_cons_zero, List.set_cons_succ]
    refine ⟨by omega, fun i acc e => acc = ((rs.take i).map (·.h)).map D.str ∧ ∃ x4, e = ([some (.f (.tup [.str oo, .tup (ts.map Ti.d), .tup (xs.map Wi.d)])), some (.f (.tup (rs.map Rw.d))), none, none, none, none] : Fx.Env).set 4 x4, ⟨rfl, none, rfl⟩, ?_, ?_⟩
    · rintro i d acc e hd ⟨rfl, x4, rfl⟩
      rw [List.getElem?_map] at hd
      obtain ⟨y, hy, rfl⟩ := Option.map_eq_some_iff.mp hd
      refine ⟨_, rfl, ?_⟩
      dsimp only [List.map_cons, List.map_nil, wipeE, setE, Tgt.js, List.set_cons_zero, List.set_cons_succ]
      unfold Rw.d
      walk_at "x"
      exact ⟨by rw [take_snoc hy, List.map_append, List.map_append]; rfl, _, rfl⟩
    rintro acc e ⟨rfl, x4, rfl⟩
    rw [List.length_map, List.take_length]
    dsimp only [List.map_cons, List.map_nil, wipeE, List.set_cons_zero, List.set_cons_succ]
    have sok := hs_str hrs
    have lok := okPy_strs sok
    have hl2 : (rs.map (·.h)).length ≤ 60 := by rw [List.length_map]; exact hl
    generalize ehs : rs.map (·.h) = hs at q sok lok hl2
    walk_at "x"
    refine ⟨hs, rfl, Nat.lt_of_le_of_lt (dst_le fun _ h => h) (show hs.length < 64 by omega), by omega, fun ys n2 s2 mm => ?_⟩
    walk_at "x"
    have yok : okPy (.lst (ys.map D.str)) = true := okPy_strs fun y hy => sok y ((mm y).mp hy)
    refine x_neD lok yok ?_
    rw [eqB_lstr, ris_ne n2 s2 mm]
    cases h2 : risB hs with
    | false =>
      rw [h2, Bool.false_and, Bool.false_and] at q
      walk_at "x"
      exact q
    | true =>
    rw [h2, Bool.true_and] at q
    walk_at "x"
    refine x_inL (okPy_str (name_cp hp.hoo)) lok ?_
    rw [mem_strs]
    cases h3 : hs.contains oo with
    | true =>
      rw [h3, Bool.not_true, Bool.false_and] at q
      walk_at "x"
      exact q
    | false =>
    rw [h3, Bool.not_false, Bool.true_and] at q
    walk_at "x"
    try dsimp only [List.map_cons, List.map_nil, wipeE, List.set_cons_zero, List.set_cons_succ]
    refine ⟨by omega, fun i acc e => acc = ((rs.take i).map (fun r => tieV ts r && giverV oo rs r)).map D.bl ∧ ∃ x4, e = (([some (.f (.tup [.str oo, .tup (ts.map Ti.d), .tup (xs.map Wi.d)])), some (.f (.tup (rs.map Rw.d))), none, none, none, none] : Fx.Env).set 3 (some (.f (.lst (hs.map D.str))))).set 4 x4, ⟨rfl, none, rfl⟩, ?_, ?_⟩
    · rintro i d acc e hd ⟨rfl, x4, rfl⟩
      rw [List.getElem?_map] at hd
      obtain ⟨r, hr0, rfl⟩ := Option.map_eq_some_iff.mp hd
      have rw_ := hrs r (List.mem_of_getElem? hr0)
      refine ⟨_, rfl, ?_⟩
      dsimp only [List.map_cons, List.map_nil, wipeE, setE, Tgt.js, List.set_cons_zero, List.set_cons_succ]
      walk_at "x"
      refine ⟨oo, ts, xs, r, rfl, hp, rw_, ?_⟩
      cases h4 : tieV ts r with
      | false =>
        walk_at "x"
        exact ⟨by rw [take_snoc hr0, List.map_append, List.map_append]; show _ = _ ++ [D.bl (tieV ts r && giverV oo rs r)]; rw [h4]; rfl, _, rfl⟩
      | true =>
        walk_at "x"
        refine ⟨oo, ts, xs, rs, r, rfl, hp, hrs, by omega, rw_, ?_⟩
        walk_at "x"
        exact ⟨by rw [take_snoc hr0, List.map_append, List.map_append]; show _ = _ ++ [D.bl (tieV ts r && giverV oo rs r)]; rw [h4]; rfl, _, rfl⟩
    rintro acc e ⟨rfl, x4, rfl⟩
    rw [List.length_map, List.take_length]
    dsimp only [List.map_cons, List.map_nil, wipeE, List.set_cons_zero, List.set_cons_succ]
    walk_at "x"
    refine x_all ?_
    rw [all_map_id]
    cases h5 : rs.all (fun r => tieV ts r && giverV oo rs r) with
    | false =>
      rw [h5, Bool.false_and] at q
      walk_at "x"
      exact q
    | true =>
    rw [h5, Bool.true_and] at q
    walk_at "x"
    try dsimp only [List.map_cons, List.map_nil, wipeE, List.set_cons_zero, List.set_cons_succ]
    have hx6 := hp.x6
    refine ⟨by rw [List.length_map]; omega, fun i acc e => acc = ((xs.take i).map (fun x => grantV x rs)).map D.bl ∧ ∃ x5, e = (([some (.f (.tup [.str oo, .tup (ts.map Ti.d), .tup (xs.map Wi.d)])), some (.f (.tup (rs.map Rw.d))), none, none, none, none] : Fx.Env).set 3 (some (.f (.lst (hs.map D.str))))).set 5 x5, ⟨rfl, none, rfl⟩, ?_, ?_⟩
    · rintro i d acc e hd ⟨rfl, x5, rfl⟩
      rw [List.getElem?_map] at hd
      obtain ⟨x, hx0, rfl⟩ := Option.map_eq_some_iff.mp hd
      refine ⟨_, rfl, ?_⟩
      dsimp only [List.map_cons, List.map_nil, wipeE, setE, Tgt.js, List.set_cons_zero, List.set_cons_succ]
      walk_at "x"
      refine ⟨rs, x, rfl, hp.hxs x (List.mem_of_getElem? hx0), hrs, ?_⟩
      walk_at "x"
      exact ⟨by rw [take_snoc hx0, List.map_append, List.map_append]; rfl, _, rfl⟩
    rintro acc e ⟨rfl, x5, rfl⟩
    rw [List.length_map, List.take_length]
    dsimp only [List.map_cons, List.map_nil, wipeE, List.set_cons_zero, List.set_cons_succ]
    walk_at "x"
    refine x_all ?_
    rw [all_map_id]
    walk_at "x"
    exact q
/-! ### the law's plan -/
theorem fit_deed {d : D} {rd : List D} (h : d ∈ deeds4) (e : d = .tup rd) : ∀ x ∈ rd, Fit 0 x := by
  obtain ⟨xs, e2, ok⟩ := deeds4_strs h
  rw [e2] at e
  cases e
  intro x hx
  obtain ⟨y, hy, rfl⟩ := List.mem_map.mp hx
  exact fit_str (ok y hy).1
theorem fit_row {r : Rw} (h : r.W) : Fit 2 r.d := by
  refine fit_tup fun x hx => ?_
  simp only [List.mem_cons, List.not_mem_nil, or_false] at hx
  rcases hx with rfl | rfl | rfl | rfl | rfl | rfl
  · exact fit_str h.g
  · exact fit_str h.h
  · have d := deeds4_tup h.p
    rw [d.1]
    exact fit_tup fun x hx => fit_deed h.p d.1 x hx
  · exact fit_int
  · exact fit_int
  · exact fit_int
theorem okPy_rows {rs : List Rw} (h : ∀ r ∈ rs, r.W) : okPy (.lst (rs.map Rw.d)) = true := by
  refine (fit_lst (n := 2) fun x hx => ?_).ok (by decide)
  obtain ⟨r, hr, rfl⟩ := List.mem_map.mp hx
  exact fit_row (h r hr)
/-! ### cases: who settles whom -/
/-- the way from x up by givers -/
def Way (cs : Case) : Str → List Str → Prop
  | x, [] => look cs x = none
  | x, y :: l => x = y ∧ ∃ g, look cs x = some g ∧ Way cs g l
theorem way_keys {cs : Case} : ∀ {l : List Str} {x : Str}, Way cs x l → ∀ y ∈ l, ∃ g, look cs y = some g
  | [], _, _, y, h => by cases h
  | z :: l, x, ⟨e, g, h2, h3⟩, y, h => by
    rcases List.mem_cons.mp h with rfl | h
    · exact ⟨g, by rw [← e]; exact h2⟩
    · exact way_keys h3 y h
def HasW (cs : Case) (x : Str) : Prop := ∃ l, Way cs x l ∧ l.Nodup
open Classical in
noncomputable def wayOf (cs : Case) (x : Str) : List Str := if h : HasW cs x then choose h else []
theorem wayOf_is {cs : Case} {x : Str} (h : HasW cs x) : Way cs x (wayOf cs x) ∧ (wayOf cs x).Nodup := by
  unfold wayOf
  rw [dif_pos h]
  exact Classical.choose_spec h
/-- behind y comes its giver -/
theorem way_next {cs : Case} : ∀ {l : List Str} {x y g : Str} {i : Nat}, Way cs x l → l[i]? = some y → look cs y = some g → (∃ g2, look cs g = some g2) → l[i + 1]? = some g
  | [], _, _, _, i, _, h, _, _ => by rw [List.getElem?_nil] at h; cases h
  | z :: l, x, y, g, 0, ⟨e, g1, h2, h3⟩, h, hy, ⟨g2, hg⟩ => by
    have ez : z = y := by simpa using h
    rw [← ez, ← e, h2] at hy
    have eg : g1 = g := Option.some.inj hy
    rw [eg] at h3
    cases l with
    | nil => rw [show look cs g = none from h3] at hg; cases hg
    | cons a l => rw [h3.1]; rfl
  | z :: l, x, y, g, i + 1, ⟨e, g1, h2, h3⟩, h, hy, hg => way_next (l := l) (i := i) h3 h hy hg
theorem way_self {cs : Case} {l : List Str} {x g : Str} (h : Way cs x l) (hg : look cs x = some g) : l[0]? = some x := by
  cases l with
  | nil => rw [show look cs x = none from h] at hg; cases hg
  | cons a l => rw [h.1]; rfl
noncomputable def bel (cs : Case) (a : Str) (x : Wi) : Bool := (look cs x.a).isSome && (wayOf cs x.a).contains a
noncomputable def below (xs : List Wi) (cs : Case) (a : Str) : List Wi := xs.filter (bel cs a)
def Acy (cs : Case) : Prop := ∀ x g, look cs x = some g → HasW cs x
theorem way_len {cs : Case} {x : Str} (h : HasW cs x) : (wayOf cs x).length ≤ cs.length := by
  obtain ⟨h1, h2⟩ := wayOf_is h
  have := nodup_le (l := wayOf cs x) (m := cs.map (·.1)) h2 fun y hy => by
    obtain ⟨g, hg⟩ := way_keys h1 y hy
    exact List.mem_map.mpr ⟨(y, g), look_mem hg, rfl⟩
  rwa [List.length_map] at this
def idx (a : Str) (l : List Str) : Nat := l.idxOf a
theorem idx_at {a : Str} {l : List Str} {i : Nat} (nd : l.Nodup) (h : l[i]? = some a) : idx a l = i := by
  obtain ⟨hi, e⟩ := List.getElem?_eq_some_iff.mp h
  unfold idx
  rw [← e]
  exact nd.idxOf_getElem i hi
theorem at_idx {a : Str} {l : List Str} (h : a ∈ l) : l[idx a l]? = some a := by
  unfold idx
  rw [List.getElem?_eq_getElem (List.idxOf_lt_length_of_mem h), List.getElem_idxOf]
noncomputable def pStep (cs : Case) (a : Str) (f : Nat) (o : Str) : Nat := if (wayOf cs o).contains a = true then (if idx a (wayOf cs o) > f then idx a (wayOf cs o) else f) else f
noncomputable def passF (cs : Case) (a : Str) (os : List Str) : Nat := os.foldl (pStep cs a) 0
noncomputable def passed (cs : Case) (a : Str) : Nat := passF cs a (cs.map (·.1))
theorem fold_ge {cs : Case} {a : Str} : ∀ {os : List Str} {f : Nat}, f ≤ os.foldl (pStep cs a) f
  | [], f => Nat.le_refl _
  | o :: os, f => by
    refine Nat.le_trans ?_ (fold_ge (os := os))
    unfold pStep
    split
    · split <;> omega
    · exact Nat.le_refl _
theorem fold_mem {cs : Case} {a : Str} : ∀ {os : List Str} {f : Nat} {o : Str}, o ∈ os → a ∈ wayOf cs o → idx a (wayOf cs o) ≤ os.foldl (pStep cs a) f
  | z :: os, f, o, h, ha => by
    rcases List.mem_cons.mp h with rfl | h
    · refine Nat.le_trans ?_ (fold_ge (os := os))
      unfold pStep
      rw [if_pos (by simpa using ha)]
      split <;> omega
    · exact fold_mem (os := os) h ha
theorem fold_is {cs : Case} {a : Str} : ∀ {os : List Str} {f : Nat}, os.foldl (pStep cs a) f = f ∨ ∃ o ∈ os, a ∈ wayOf cs o ∧ os.foldl (pStep cs a) f = idx a (wayOf cs o)
  | [], f => .inl rfl
  | z :: os, f => by
    rw [List.foldl_cons]
    rcases fold_is (cs := cs) (a := a) (os := os) (f := pStep cs a f z) with h | ⟨o, h1, h2, h3⟩
    · rw [h]
      unfold pStep
      split
      · rename_i hc
        split
        · exact .inr ⟨z, List.mem_cons_self .., by simpa using hc, rfl⟩
        · exact .inl rfl
      · exact .inl rfl
    · exact .inr ⟨o, List.mem_cons_of_mem _ h1, h2, h3⟩
/-- givers settled, each along a tie, as a case says it -/
structure CsB (oo : Str) (cs : Case) : Prop where
  nd : (cs.map (·.1)).Nodup
  a : ∀ p ∈ cs, nameB (.str p.1) = true
  b : ∀ p ∈ cs, nameB (.str p.2) = true
  ne : ∀ p ∈ cs, p.2 ≠ p.1
  no : ∀ p ∈ cs, p.1 ≠ oo
  len : cs.length ≤ 6
def Closed (oo : Str) (xs : List Wi) (cs : Case) : Prop := (∀ x ∈ xs, ∃ g, look cs x.a = some g) ∧ ∀ p ∈ cs, p.2 = oo ∨ ∃ g, look cs p.2 = some g
def Fits (ts : List Ti) (xs : List Wi) (cs : Case) : Prop := Acy cs ∧ ∀ a g, look cs a = some g → ∀ s u, IsMin s (below xs cs a) → IsMax u (below xs cs a) → tieV ts ⟨g, a, .non, s, u, 0⟩ = true
def FitsB (xs : List Wi) (cs : Case) : Prop := ∀ a g, look cs a = some g → below xs cs a ≠ []
def lookS : D := .str "look"
def setS : D := .str "set"
def dsOf (b : List Wi) : List D := [lookS, setS].filter fun d => b.any fun x => memB (deedsL x.p) d
structure RowOf (xs : List Wi) (cs : Case) (r : Rw) : Prop where
  g : look cs r.h = some r.g
  p : r.p = .tup (dsOf (below xs cs r.h))
  s : IsMin r.s (below xs cs r.h)
  u : IsMax r.u (below xs cs r.h)
  k : r.k = (passed cs r.h : Nat)
theorem mem_str {l : List D} {s : Str} (h : D.str s ∈ l) : memB l (.str s) = true := by
  obtain ⟨j, hj, e⟩ := List.getElem_of_mem h
  unfold memB
  rw [List.any_eq_true]
  refine ⟨PyData.str s, List.mem_of_getElem? (i := j) (by rw [pyL_get, List.getElem?_eq_getElem hj, e]; rfl), ?_⟩
  exact (eq_strs (x := s) (y := s)).trans (beq_self_eq_true s)
theorem below_sub {xs : List Wi} {cs : Case} (ac : Acy cs) {a g g2 : Str} (h : look cs a = some g) (h2 : look cs g = some g2) {x : Wi} (hx : x ∈ below xs cs a) : x ∈ below xs cs g := by
  obtain ⟨h3, h4⟩ := List.mem_filter.mp hx
  obtain ⟨h5, h6⟩ := Bool.and_eq_true_iff.mp (show ((look cs x.a).isSome && (wayOf cs x.a).contains a) = true from h4)
  obtain ⟨z, hz⟩ := Option.isSome_iff_exists.mp h5
  have hw := wayOf_is (ac _ _ hz)
  have ha : a ∈ wayOf cs x.a := by simpa using h6
  have := way_next hw.1 (at_idx ha) h ⟨g2, h2⟩
  refine List.mem_filter.mpr ⟨h3, ?_⟩
  show ((look cs x.a).isSome && (wayOf cs x.a).contains g) = true
  rw [h5, Bool.true_and]
  simpa using List.mem_of_getElem? this
theorem passed_lt {cs : Case} (ac : Acy cs) {a g g2 : Str} (h : look cs a = some g) (h2 : look cs g = some g2) : passed cs a < passed cs g := by
  have step : ∀ {o z : Str} {i : Nat}, look cs o = some z → (wayOf cs o)[i]? = some a → i + 1 ≤ passed cs g := fun {o z i} ho hi => by
    have hw := wayOf_is (ac _ _ ho)
    have h3 := way_next hw.1 hi h ⟨g2, h2⟩
    rw [← idx_at hw.2 h3]
    exact fold_mem (List.mem_map.mpr ⟨(o, z), look_mem ho, rfl⟩) (List.mem_of_getElem? h3)
  rcases fold_is (cs := cs) (a := a) (os := cs.map (·.1)) (f := 0) with e | ⟨o, h3, h4, e⟩
  · rw [show passed cs a = 0 from e]
    exact step h (way_self (wayOf_is (ac _ _ h)).1 h)
  · rw [show passed cs a = _ from e]
    obtain ⟨p, hp, rfl⟩ := List.mem_map.mp h3
    obtain ⟨z, hz⟩ : ∃ z, look cs p.1 = some z := by
      unfold look
      cases hl : cs.lookup p.1 with
      | some z => exact ⟨z, rfl⟩
      | none =>
        rw [List.lookup_eq_none_iff] at hl
        have := hl p hp
        simp at this
    exact step hz (at_idx h4)
theorem passed_le {oo : Str} {cs : Case} (ok : CsB oo cs) (ac : Acy cs) {a : Str} : passed cs a ≤ 6 := by
  rcases fold_is (cs := cs) (a := a) (os := cs.map (·.1)) (f := 0) with e | ⟨o, h3, h4, e⟩
  · rw [show passed cs a = 0 from e]
    omega
  · rw [show passed cs a = _ from e]
    obtain ⟨p, hp, rfl⟩ := List.mem_map.mp h3
    have h5 := way_len (ac p.1 p.2 (look_of ok.nd hp))
    have h6 : idx a (wayOf cs p.1) < (wayOf cs p.1).length := List.idxOf_lt_length_of_mem h4
    have := ok.len
    omega
theorem dsOf_cases (b : List Wi) : dsOf b = [] ∨ dsOf b = [lookS] ∨ dsOf b = [setS] ∨ dsOf b = [lookS, setS] := by
  unfold dsOf
  rw [List.filter_cons, List.filter_cons, List.filter_nil]
  split <;> split <;> simp
theorem dsOf_mem {b : List Wi} {x : Wi} (hx : x ∈ b) (ok : x.Ok) {d : D} (hd : d ∈ deedsL x.p) : ∃ s, d = .str s ∧ d ∈ dsOf b := by
  have key : d = lookS ∨ d = setS := by
    have hp := ok.p
    generalize x.p = p at hp hd
    rcases List.mem_cons.mp hp with rfl | hp
    · exact .inl (List.mem_singleton.mp hd)
    rcases List.mem_cons.mp hp with rfl | hp
    · exact .inr (List.mem_singleton.mp hd)
    rw [List.mem_singleton.mp hp] at hd
    simpa using (show d ∈ [lookS, setS] from hd)
  have hm : ∀ s : Str, d = .str s → (b.any fun x => memB (deedsL x.p) d) = true := fun s e => by
    rw [List.any_eq_true]
    exact ⟨x, hx, by rw [e] at hd ⊢; exact mem_str hd⟩
  rcases key with e | e
  · exact ⟨"look", e, List.mem_filter.mpr ⟨by rw [e]; simp, hm _ e⟩⟩
  · exact ⟨"set", e, List.mem_filter.mpr ⟨by rw [e]; simp, hm _ e⟩⟩
theorem dsOf_ne {b : List Wi} (ok : ∀ x ∈ b, x.Ok) (h : b ≠ []) : D.tup (dsOf b) ∈ allDeeds := by
  cases b with
  | nil => exact absurd rfl h
  | cons x b =>
    have hp := (ok x (List.mem_cons_self ..)).p
    have hd : ∃ d, d ∈ deedsL x.p := by
      generalize x.p = p at hp
      rcases List.mem_cons.mp hp with rfl | hp
      · exact ⟨_, List.mem_cons_self ..⟩
      rcases List.mem_cons.mp hp with rfl | hp
      · exact ⟨_, List.mem_cons_self ..⟩
      rw [List.mem_singleton.mp hp]
      exact ⟨_, List.mem_cons_self ..⟩
    obtain ⟨d, hd⟩ := hd
    obtain ⟨s, _, hm⟩ := dsOf_mem (List.mem_cons_self ..) (ok x (List.mem_cons_self ..)) hd
    rcases dsOf_cases (x :: b) with e | e | e | e
    · rw [e] at hm; cases hm
    · rw [e]; exact List.mem_cons_self ..
    · rw [e]; exact List.mem_cons_of_mem _ (List.mem_cons_self ..)
    · rw [e]; exact List.mem_cons_of_mem _ (List.mem_cons_of_mem _ (List.mem_cons_self ..))
theorem grantV_row {x : Wi} : ∀ {rs : List Rw} {r : Rw}, (rs.map (·.h)).Nodup → r ∈ rs → r.h = x.a → grantV x rs = fitV x r
  | z :: rs, r, nd, hr, e => by
    have nd := List.nodup_cons.mp nd
    unfold grantV
    rcases List.mem_cons.mp hr with rfl | hr
    · rw [if_pos e]
    · rw [if_neg (fun e2 => nd.1 (List.mem_map.mpr ⟨r, hr, by rw [e]; exact e2.symm⟩))]
      exact grantV_row nd.2 hr e
section
variable {oo : Str} {ts : List Ti} {xs : List Wi} {cs : Case}
theorem row_W (tr : TrOk oo ts xs) (ok : CsB oo cs) (fb : FitsB xs cs) {r : Rw} (h : RowOf xs cs r) : r.W := by
  have hm := look_mem h.g
  have a1 := ok.a _ hm
  have b1 := ok.b _ hm
  refine ⟨name_cp b1, Nat.le_trans (name_len b1) (by decide), name_cp a1, Nat.le_trans (name_len a1) (by decide), ?_⟩
  rw [h.p]
  exact deeds_four (dsOf_ne (fun x hx => tr.hxs x (List.mem_filter.mp hx).1) (fb _ _ h.g))
theorem row_form (tr : TrOk oo ts xs) (ok : CsB oo cs) (fb : FitsB xs cs) (ac : Acy cs) {r : Rw} (h : RowOf xs cs r) : formB r = true := by
  have hm := look_mem h.g
  have bo : ∀ x ∈ below xs cs r.h, x.Ok := fun x hx => tr.hxs x (List.mem_filter.mp hx).1
  rw [formB_law, ok.b _ hm, ok.a _ hm, beq_false_of_ne (ok.ne _ hm), h.p, (by decide +kernel : ∀ p ∈ allDeeds, deedsB p = true) _ (dsOf_ne bo (fb _ _ h.g)), h.k]
  have hk := passed_le ok ac (a := r.h)
  obtain ⟨x, hx, e1⟩ := List.mem_map.mp h.s.1
  obtain ⟨y, hy, e2⟩ := List.mem_map.mp h.u.1
  have o1 := bo x hx
  have o2 := bo y hy
  have l1 := h.u.2 x hx
  have z1 := o1.s0
  have z2 := o1.su
  have z3 := o2.u1
  rw [span_ok (by omega) (by omega) (by omega), decide_eq_true (by omega : (0 : Int) ≤ (passed cs r.h : Nat)), decide_eq_true (by omega : ((passed cs r.h : Nat) : Int) ≤ 6)]
  rfl
theorem plan_rows (tr : TrOk oo ts xs) (ok : CsB oo cs) (cl : Closed oo xs cs) (ft : Fits ts xs cs) (fb : FitsB xs cs) {rs : List Rw} {ys : List Str} (hy : rs.map (·.h) = ys) (pm : ys.Perm (cs.map (·.1))) (so : sortedS ys = true) (hr : ∀ r ∈ rs, RowOf xs cs r) : planV oo ts xs rs = true := by
  have nd : ys.Nodup := pm.nodup_iff.mpr ok.nd
  have at_ : ∀ {a g : Str}, look cs a = some g → ∃ r ∈ rs, r.h = a := fun {a g} h => by
    have : a ∈ rs.map (·.h) := by rw [hy]; exact pm.mem_iff.mpr (List.mem_map.mpr ⟨_, look_mem h, rfl⟩)
    obtain ⟨r, h1, h2⟩ := List.mem_map.mp this
    exact ⟨r, h1, h2⟩
  unfold planV
  rw [List.all_eq_true.mpr fun r h => row_form tr ok fb ft.1 (hr r h), hy, show risB ys = true from by unfold risB; rw [so, decide_eq_true nd]; rfl]
  rw [show ys.contains oo = false from by
    cases hc : ys.contains oo with
    | false => rfl
    | true =>
      obtain ⟨p, hp, e⟩ := List.mem_map.mp (pm.mem_iff.mp (by simpa using hc : oo ∈ ys))
      exact absurd e (ok.no p hp)]
  rw [List.all_eq_true.mpr fun r h => ?_, List.all_eq_true.mpr fun x hx => ?_]
  · rfl
  · obtain ⟨g, hg⟩ := cl.1 x hx
    obtain ⟨r, h1, h2⟩ := at_ hg
    have ho := hr r h1
    rw [grantV_row (by rw [hy]; exact nd) h1 h2]
    have hb : x ∈ below xs cs r.h := by
      refine List.mem_filter.mpr ⟨hx, ?_⟩
      show ((look cs x.a).isSome && (wayOf cs x.a).contains r.h) = true
      rw [hg, h2]
      have := List.mem_of_getElem? (way_self (wayOf_is (ft.1 _ _ hg)).1 hg)
      simpa using this
    unfold fitV
    rw [decide_eq_true (ho.s.2 x hb), decide_eq_true (ho.u.2 x hb), ho.p]
    show ((deedsL x.p).all (memB (dsOf (below xs cs r.h)))) = true
    rw [List.all_eq_true]
    intro d hd
    obtain ⟨s, rfl, hm⟩ := dsOf_mem hb (tr.hxs x hx) hd
    exact mem_str hm
  · have ho := hr r h
    show (tieV ts r && giverV oo rs r) = true
    rw [show tieV ts r = true from ft.2 _ _ ho.g _ _ ho.s ho.u, Bool.true_and]
    unfold giverV
    rcases cl.2 _ (look_mem ho.g) with e | ⟨g2, hg⟩
    · rw [show r.g = oo from e, beq_self_eq_true]
      rfl
    · rw [show rs.any (withinV r) = true from ?_, Bool.or_true]
      obtain ⟨o, h1, h2⟩ := at_ hg
      have h2 : o.h = r.g := h2
      have oo' := hr o h1
      rw [List.any_eq_true]
      refine ⟨o, h1, ?_⟩
      have sub : ∀ x ∈ below xs cs r.h, x ∈ below xs cs o.h := fun x hx => by rw [h2]; exact below_sub ft.1 ho.g hg hx
      obtain ⟨x, hx, e1⟩ := List.mem_map.mp ho.s.1
      obtain ⟨y, hy2, e2⟩ := List.mem_map.mp ho.u.1
      have l1 := oo'.s.2 x (sub x hx)
      have l2 := oo'.u.2 y (sub y hy2)
      have l3 := passed_lt ft.1 ho.g hg
      rw [← h2] at l3
      have l4 := ho.k
      have l5 := oo'.k
      unfold withinV
      rw [decide_eq_true (by omega : o.s ≤ r.s), decide_eq_true (by omega : r.u ≤ o.u), decide_eq_true (by omega : r.k < o.k), h2, beq_self_eq_true, ho.p, oo'.p]
      show ((dsOf (below xs cs r.h)).all (memB (dsOf (below xs cs o.h))) && true) = true
      rw [Bool.and_true, List.all_eq_true]
      intro d hd
      obtain ⟨h3, h4⟩ := List.mem_filter.mp hd
      obtain ⟨x, hx, h5⟩ := List.any_eq_true.mp h4
      have h6 : d ∈ dsOf (below xs cs o.h) := List.mem_filter.mpr ⟨h3, List.any_eq_true.mpr ⟨x, sub x hx, h5⟩⟩
      rcases List.mem_cons.mp h3 with e | h3
      · rw [e] at h6 ⊢
        exact mem_str h6
      · rw [List.mem_singleton.mp h3] at h6 ⊢
        exact mem_str h6
end

end
section
variable {P : Program} {w : World} {K : PySem.W.Frag} {mg : Str → Option Value} {base : Heap} {tabs : List Addr}
/-! ### ways up -/
/-! ### wishes below -/
/-! ### fits -/
/-! ### rows of a case -/
end
section
variable {P : Program} {w : World} {K : PySem.W.Frag} {mg : Str → Option Value} {base : Heap} {tabs : List Addr}
/-! ### ways and reaching -/
theorem goes_inj {cs : Case} (nr : ∀ a, ¬ Abv cs a a) {i j : Nat} {x y : Str} (h1 : goes cs i x = some y) (h2 : goes cs j x = some y) : i = j := by
  have key : ∀ i j : Nat, i < j → goes cs i x = some y → goes cs j x = some y → False := fun i j l h1 h2 => by
    have e := goes_add (cs := cs) (i := i) (x := x) (j - i)
    rw [Nat.add_sub_cancel' (Nat.le_of_lt l), h1, h2] at e
    refine nr y ⟨j - i - 1, ?_⟩
    rw [show j - i - 1 + 1 = j - i by omega]
    exact e.symm
  rcases Nat.lt_trichotomy i j with l | l | l
  · exact (key i j l h1 h2).elim
  · exact l
  · exact (key j i l h2 h1).elim
theorem goes_stop {cs : Case} (nr : ∀ a, ¬ Abv cs a a) (x : Str) : goes cs (cs.length + 1) x = none := by
  cases h : goes cs (cs.length + 1) x with
  | none => rfl
  | some y =>
    obtain ⟨n, l, e⟩ := reach_le ⟨_, h⟩
    have := goes_inj nr e h
    omega
theorem way_ex {cs : Case} : ∀ (n : Nat) (x : Str), goes cs n x = none → ∃ l, Way cs x l
  | 0, _, h => by cases h
  | n + 1, x, h => by
    rw [goes_one] at h
    cases e : look cs x with
    | none => exact ⟨[], e⟩
    | some g =>
      rw [e] at h
      obtain ⟨l, hl⟩ := way_ex n g h
      exact ⟨x :: l, rfl, g, e, hl⟩
theorem way_at {cs : Case} : ∀ {l : List Str} {x : Str} {i : Nat}, Way cs x l → i < l.length → l[i]? = goes cs i x
  | [], _, _, _, h => absurd h (Nat.not_lt_zero _)
  | y :: l, x, 0, ⟨e, _⟩, _ => by rw [← e]; rfl
  | y :: l, x, i + 1, ⟨e, g, h2, h3⟩, h => by
    rw [List.getElem?_cons_succ, way_at h3 (Nat.lt_of_succ_lt_succ h), goes_one, h2]
    rfl
theorem way_end {cs : Case} : ∀ {l : List Str} {x : Str}, Way cs x l → ∃ z, goes cs l.length x = some z ∧ look cs z = none
  | [], x, h => ⟨x, rfl, h⟩
  | y :: l, x, ⟨e, g, h2, h3⟩ => by
    obtain ⟨z, h4, h5⟩ := way_end h3
    refine ⟨z, ?_, h5⟩
    rw [List.length_cons, goes_one, h2]
    exact h4
theorem way_lt {cs : Case} {l : List Str} {x y g : Str} {i : Nat} (w : Way cs x l) (h : goes cs i x = some y) (hg : look cs y = some g) : i < l.length := by
  obtain ⟨z, h4, h5⟩ := way_end w
  rcases Nat.lt_trichotomy i l.length with l1 | l1 | l1
  · exact l1
  · rw [l1, h4] at h
    cases h
    rw [h5] at hg
    cases hg
  · have e := goes_pre (cs := cs) (i := l.length + 1) h (by omega)
    obtain ⟨z2, hz⟩ := e
    have e1 : goes cs (l.length + 1) x = (goes cs l.length x).bind (look cs) := rfl
    rw [hz, h4] at e1
    rw [show ((some z).bind (look cs)) = look cs z from rfl, h5] at e1
    cases e1
theorem acy_of {cs : Case} (nr : ∀ a, ¬ Abv cs a a) (x : Str) : HasW cs x := by
  obtain ⟨l, w⟩ := way_ex _ x (goes_stop nr x)
  refine ⟨l, w, nodup_of_inj fun i j hij hj e => ?_⟩
  rw [way_at w (by omega), way_at w hj] at e
  have hl := way_at w hj
  rw [List.getElem?_eq_getElem hj] at hl
  have := goes_inj nr (e.trans hl.symm) hl.symm
  omega
theorem way_mem {cs : Case} (ac : Acy cs) {x a g g0 : Str} (hx : look cs x = some g0) (ha : look cs a = some g) : a ∈ wayOf cs x ↔ Reach cs x a := by
  obtain ⟨w, nd⟩ := wayOf_is (ac x g0 hx)
  constructor
  · intro h
    obtain ⟨i, hi, e⟩ := List.getElem_of_mem h
    exact ⟨i, by rw [← way_at w hi, List.getElem?_eq_getElem hi, e]⟩
  · rintro ⟨i, e⟩
    have l := way_lt w e ha
    exact List.mem_of_getElem? ((way_at w l).trans e)
theorem way_idx {cs : Case} (ac : Acy cs) {x a g g0 : Str} {i : Nat} (hx : look cs x = some g0) (ha : look cs a = some g) (e : goes cs i x = some a) : a ∈ wayOf cs x ∧ idx a (wayOf cs x) = i := by
  obtain ⟨w, nd⟩ := wayOf_is (ac x g0 hx)
  have h := (way_at w (way_lt w e ha)).trans e
  exact ⟨List.mem_of_getElem? h, idx_at nd h⟩
theorem below_eq {xs : List Wi} {cs : Case} (nd : (cs.map (·.1)).Nodup) (ac : Acy cs) {a g : Str} (ha : look cs a = some g) : below xs cs a = xs.filter (borneB cs a) := by
  refine List.filter_congr fun x _ => ?_
  rw [Bool.eq_iff_iff, borne_iff]
  show ((look cs x.a).isSome && (wayOf cs x.a).contains a) = true ↔ _
  rw [Bool.and_eq_true, List.contains_iff_mem]
  constructor
  · rintro ⟨h1, h2⟩
    obtain ⟨g0, h0⟩ := Option.isSome_iff_exists.mp h1
    exact (way_mem ac h0 ha).mp h2
  · intro h
    obtain ⟨g0, h0⟩ := key_look nd (reach_key h (look_key ha))
    exact ⟨by rw [h0]; rfl, (way_mem ac h0 ha).mpr h⟩
theorem passed_dep {cs : Case} (nd : (cs.map (·.1)).Nodup) (ac : Acy cs) {a g : Str} {k : Nat} (ha : look cs a = some g) (d : IsDep cs a k) : passed cs a = k := by
  refine Nat.le_antisymm ?_ ?_
  · rcases fold_is (cs := cs) (a := a) (os := cs.map (·.1)) (f := 0) with e | ⟨o, h3, h4, e⟩
    · rw [show passed cs a = 0 from e]
      exact Nat.zero_le _
    · rw [show passed cs a = _ from e]
      obtain ⟨g0, h0⟩ := key_look nd h3
      obtain ⟨i, hi⟩ := (way_mem ac h0 ha).mp h4
      rw [(way_idx ac h0 ha hi).2]
      exact d.2 o i hi
  · obtain ⟨x, hx⟩ := d.1
    obtain ⟨g0, h0⟩ := key_look nd (reach_key ⟨k, hx⟩ (look_key ha))
    obtain ⟨h1, h2⟩ := way_idx ac h0 ha hx
    have := fold_mem (cs := cs) (a := a) (os := cs.map (·.1)) (f := 0) (o := x) (look_key h0) h1
    rw [h2] at this
    exact this
theorem row_bridge {xs : List Wi} {cs : Case} (nd : (cs.map (·.1)).Nodup) (ac : Acy cs) {r : Rw} (h : PRow xs cs r) : RowOf xs cs r := by
  obtain ⟨g, p, s, u, k, ek, d⟩ := h
  have e := below_eq (xs := xs) nd ac g
  exact ⟨g, by rw [e]; exact p, by rw [e]; exact s, by rw [e]; exact u, by rw [passed_dep nd ac g d]; exact ek⟩
/-! ### a case is what it says, in whatever order -/
theorem look_perm {c c' : Case} (nd : (c.map (·.1)).Nodup) (pm : c'.Perm c) : look c' = look c := by
  have nd' : (c'.map (·.1)).Nodup := (pm.map _).nodup_iff.mpr nd
  funext x
  cases h : look c x with
  | some g => exact look_of nd' (pm.mem_iff.mpr (look_mem h))
  | none =>
    cases h' : look c' x with
    | none => rfl
    | some g =>
      rw [look_of nd (pm.mem_iff.mp (look_mem h'))] at h
      cases h
theorem goes_look {c c' : Case} (e : look c' = look c) : ∀ n, goes c' n = goes c n
  | 0 => rfl
  | n + 1 => by
    funext x
    show (goes c' n x).bind (look c') = (goes c n x).bind (look c)
    rw [goes_look e n, e]
theorem reach_look {c c' : Case} (e : look c' = look c) {x y : Str} : Reach c' x y ↔ Reach c x y := by
  unfold Reach
  simp only [goes_look e]
theorem abv_look2 {c c' : Case} (e : look c' = look c) {x y : Str} : Abv c' x y ↔ Abv c x y := by
  unfold Abv
  simp only [goes_look e]
theorem borne_look {c c' : Case} (e : look c' = look c) (a : Str) : borneB c' a = borneB c a := by
  funext x
  rw [Bool.eq_iff_iff, borne_iff, borne_iff, reach_look e]
theorem time_look {ts : List Ti} {xs : List Wi} {c c' : Case} (e : look c' = look c) (a g : Str) : timeV ts xs c' a g = timeV ts xs c a g := by
  unfold timeV
  rw [borne_look e]
theorem dep_look {c c' : Case} (e : look c' = look c) {a : Str} {k : Nat} : IsDep c' a k ↔ IsDep c a k := by
  unfold IsDep
  simp only [goes_look e]
theorem prow_look {xs : List Wi} {c c' : Case} (e : look c' = look c) {r : Rw} (h : PRow xs c r) : PRow xs c' r := by
  obtain ⟨g, p, s, u, k, ek, d⟩ := h
  exact ⟨by rw [e]; exact g, by rw [borne_look e]; exact p, by rw [borne_look e]; exact s, by rw [borne_look e]; exact u, k, ek, (dep_look e).mpr d⟩
theorem good_perm {oo : Str} {ns : List Str} {ts : List Ti} {xs : List Wi} {c c' : Case} (g : GoodC oo ns ts xs c) (pm : c'.Perm c) : GoodC oo ns ts xs c' := by
  have e := look_perm g.ci.ok.nd pm
  have m : ∀ p, p ∈ c' ↔ p ∈ c := fun p => pm.mem_iff
  refine ⟨⟨⟨(pm.map _).nodup_iff.mpr g.ci.ok.nd, fun p hp => g.ci.ok.a p ((m p).mp hp), fun p hp => g.ci.ok.b p ((m p).mp hp), by rw [pm.length_eq]; exact g.ci.ok.len⟩, fun p hp => g.ci.k p ((m p).mp hp), fun p hp => g.ci.v p ((m p).mp hp)⟩,
    fun p hp => g.tied p ((m p).mp hp), fun a h => g.ring a ((abv_look2 e).mp h), fun p hp => by rw [time_look e]; exact g.time p ((m p).mp hp), next_no.mpr fun y hy ne => ?_⟩
  rw [(pm.map (·.1)).mem_iff]
  refine next_no.mp g.nx y ?_ ne
  rcases List.mem_append.mp hy with h | h
  · exact List.mem_append_left _ h
  · exact List.mem_append_right _ ((pm.map (·.2)).mem_iff.mp h)
theorem rooted_look {xs : List Wi} {c c' : Case} (pm : c'.Perm c) (e : look c' = look c) (r : Rooted xs c) : Rooted xs c' := fun y hy => by
  obtain ⟨x, hx, h⟩ := r y ((pm.map (·.1)).mem_iff.mp hy)
  exact ⟨x, hx, (reach_look e).mpr h⟩
/-! ### a case that nothing bars fits, as the law has it -/
theorem good_B {oo : Str} {ns : List Str} {ts : List Ti} {xs : List Wi} {c : Case} (wd : Wd oo ns ts xs) (no : oo ∉ ns) (g : GoodC oo ns ts xs c) : CsB oo c := by
  refine ⟨g.ci.ok.nd, g.ci.ok.a, g.ci.ok.b, fun p hp e => ?_, fun p hp e => no (by rw [← e]; exact g.ci.k p hp), g.ci.ok.len⟩
  obtain ⟨t, ht, h1, h2⟩ := g.tied p hp
  exact (wd.tr.hts t ht).ab (h2.trans (e.trans h1.symm))
theorem good_fits {oo : Str} {ns : List Str} {ts : List Ti} {xs : List Wi} {c : Case} (g : GoodC oo ns ts xs c) : Fits ts xs c := by
  have ac : Acy c := fun x _ _ => acy_of g.ring x
  refine ⟨ac, fun a w h s u hs hu => ?_⟩
  rw [below_eq g.ci.ok.nd ac h] at hs hu
  have ht := g.time _ (look_mem h)
  rw [← time_tie hs hu]
  unfold timeV at ht
  rw [Bool.not_eq_false'] at ht
  exact ht
theorem good_fitsB {oo : Str} {ns : List Str} {ts : List Ti} {xs : List Wi} {c : Case} (g : GoodC oo ns ts xs c) (r : Rooted xs c) : FitsB xs c := fun a w h e => by
  rw [below_eq g.ci.ok.nd (fun x _ _ => acy_of g.ring x) h] at e
  obtain ⟨x, hx, hr⟩ := r a (look_key h)
  have := List.mem_filter.mpr ⟨hx, borne_iff.mpr hr⟩
  rw [e] at this
  cases this
theorem good_closed {oo : Str} {ns : List Str} {ts : List Ti} {xs : List Wi} {c : Case} (wd : Wd oo ns ts xs) (g : GoodC oo ns ts xs c) : Closed oo xs c := by
  refine ⟨fun x hx => key_look g.ci.ok.nd (next_none g.nx (List.mem_append_left _ (List.mem_map.mpr ⟨x, hx, rfl⟩)) (wd.tr.no x hx)), fun p hp => ?_⟩
  by_cases e : p.2 = oo
  · exact .inl e
  · exact .inr (key_look g.ci.ok.nd (next_none g.nx (List.mem_append_right _ (List.mem_map.mpr ⟨p, hp, rfl⟩)) e))
end
section
variable {P : Program} {w : World} {K : PySem.W.Frag} {mg : Str → Option Value} {base : Heap} {tabs : List Addr}
/-! ### the program: a row of the plan, walked -/
def Low (cs : Case) (a : Str) (n : Nat) : Prop := ∀ x j, goes cs j x = some a → j ≤ n
def wPl : Nat → WFn
  | 0, _, _ => False
  | N + 1, ds, Q => ∃ (oo : Str) (ns : List Str) (ts : List Ti) (xs : List Wi) (cs : Case) (a : Str) (n : Nat), ds = [trustD oo ts xs, cD cs, .str a] ∧ n ≤ N ∧ Wd oo ns ts xs ∧ GoodC oo ns ts xs cs ∧ Rooted xs cs ∧ a ∈ cs.map (·.1) ∧ Low cs a n ∧ ∀ r : Rw, r.h = a → PRow xs cs r → Q (.f r.d)
theorem mono__pl : ∀ {n : Nat}, MonoF (wPl n)
  | 0 => fun _ _ _ _ h => h
  | n + 1 => fun ds Q Q' i ⟨oo, ns, ts, xs, cs, a, n0, h1, h2, h3, h4, h5, h6, h7, q⟩ => ⟨oo, ns, ts, xs, cs, a, n0, h1, h2, h3, h4, h5, h6, h7, fun r a b => i _ (q r a b)⟩
theorem dsP_cases (b : List Wi) : dsP b = [] ∨ dsP b = [.str "look"] ∨ dsP b = [.str "set"] ∨ dsP b = [.str "look", .str "set"] := by
  unfold dsP
  rw [List.filter_cons, List.filter_cons, List.filter_nil]
  split <;> split <;> simp
def PdOk (d : D) : Prop := d = .tup (deedsL d) ∧ okPy (.tup (deedsL d)) = true
theorem pd_ds (b : List Wi) : PdOk (.tup (dsP b)) := by
  refine ⟨rfl, ?_⟩
  show okPy (.tup (dsP b)) = true
  rcases dsP_cases b with e | e | e | e <;> rw [e] <;> decide +kernel
theorem pd_all {d : D} (h : d ∈ allDeeds) : PdOk d := by
  have := deeds4_tup (deeds_four h)
  exact ⟨this.1, this.2.2.1⟩
theorem in_pd {d e : D} {Q : D → Prop} (h : PdOk d) (h1 : okPy e = true) (q : Q (.bl (memB (deedsL d) e))) : dIn false e d Q := by
  obtain ⟨h, h2⟩ := h
  generalize deedsL d = l at h h2 q
  subst h
  exact x_inT h1 h2 q
theorem set_same {α : Type} : ∀ {l : List α} {i : Nat} {x : α}, l[i]? = some x → l.set i x = l
  | [], _, _, h => by cases h
  | y :: l, 0, x, h => by cases h; rfl
  | y :: l, i + 1, x, h => by rw [List.set_cons_succ, set_same (l := l) (i := i) h]
theorem x_keepB {i : Nat} {env : Fx.Env} {Q : Sl → Fx.Env → Prop} {bs : List D} {sb : Option Sl} (hsb : sb = some (.own (.lst bs)) ∨ sb = some (.f (.lst bs))) (he : env[i]? = some sb) (h : Q (.f (.lst bs)) (env.set i (some (.f (.lst bs))))) : wKeep i env Q := by
  rcases hsb with rfl | rfl
  · exact x_keepO he rfl h
  · refine x_keepF he ?_
    rw [set_same he] at h
    exact h
def pt3 (q : D × Int × Int) : D := .tup [q.1, .int q.2.1, .int q.2.2]
theorem ok_pl {N k : Nat} (hk : 3 ≤ k) (T : Txt K mg) (c__planned : Cal P w K mg base k "_planned" (spW K tabs (liftF (wPl N)))) (A : At K mg "_planned" s__planned ["trust", "settled", "actor"]) : Cal P w K mg base (k + 1) "_planned" (spW K tabs (liftF (wPl (N + 1)))) := by
  have mono__planned : MonoF (wPl N) := mono__pl
  refine A.of fun f fd F => fx_fnF F sc__planned (fun ds Q ⟨_, _, _, _, _, _, _, h, _⟩ => by rw [h]; rfl) fun cdv A outer s H E TT P0 σ0 hcd hr => ⟨_, (gss_cons (gs_fz (i := 1) (fun Tz Hz Pz σz hz => (gs_lcFR1 (i := 3) (own := [("other", 4)]) (t := .name 4) rfl sc__planned.nd rfl rfl (sw_true rfl rfl rfl (by decide +kernel)) (gi_keys hz (pv 1)) (blkOk_by (own := [("other", 4)]) (N := ["trust", "settled", "actor", "given", "other", "borne", "row", "wish", "deeds", "deed", "part", "since", "until", "passes"]) (sc := defScope s__planned) (by decide +kernel)) (fun _ _ _ _ _ => (pg_name (i := 4) sc__planned.nd rfl (Or.inl rfl))) (fun _ _ _ _ _ => (gt_cmp (opx_eq hr.units) (ge_dix (u1 hr) (GE.of_pure (gp_var (pv 1))) (GE.of_pure (gp_var (pv 4))) (fun _ _ => rfl)) (GE.of_pure (gp_var (pv 2))) (nomark _))) (fun _ _ _ _ _ => (ge_callF c__planned hr (by first | decide | omega) rfl rfl rfl mono__planned (gd_cons (GE.of_pure (gp_var (pv 0))) (gd_cons (GE.of_pure (gp_var (pv 1))) (gd_cons (GE.of_pure (gp_var (pv 4))) gd_nil))))) (by decide) (mem1 rfl) (mem1 (Nat.le_of_ble_eq_true rfl)))))
      (gss_cons (gs_setE (i := 5) sc__planned.nd rfl (Or.inr rfl) (ge_lcR (own := [("row", 6)]) (t := .name 6) rfl sc__planned.nd (gi_list (GE.of_pure (gp_var (pv 3)))) (blkOk_by (own := [("row", 6)]) (N := ["trust", "settled", "actor", "given", "other", "borne", "row", "wish", "deeds", "deed", "part", "since", "until", "passes"]) (sc := defScope s__planned) (by decide +kernel)) (fun _ _ _ _ _ => (pg_name (i := 6) sc__planned.nd rfl (Or.inl rfl))) (fun _ _ _ _ _ => (ge_sl (GE.of_pure (gp_var (pv 6))) (go_some (GE.of_pure gp_int)) (go_some (GE.of_pure gp_int)))) (by decide) (mem1 rfl) (mem1 (Nat.le_of_ble_eq_true rfl))))
      (gss_cons (gs_extend (pv 5) (ge_lcR1 (own := [("wish", 7)]) (t := .name 7) rfl sc__planned.nd (gi_tup (GE.of_pure (gp_ix ixx (gp_var (pv 0)) (gp_k T.g_WISHES rfl) (fun _ _ => rfl)))) (blkOk_by (own := [("wish", 7)]) (N := ["trust", "settled", "actor", "given", "other", "borne", "row", "wish", "deeds", "deed", "part", "since", "until", "passes"]) (sc := defScope s__planned) (by decide +kernel)) (fun _ _ _ _ _ => (pg_name (i := 7) sc__planned.nd rfl (Or.inl rfl))) (fun _ _ _ _ _ => (gt_cmpP (opx_eq hr.units) (gp_ix ixx (gp_var (pv 7)) gp_int (fun _ _ => rfl)) (gp_var (pv 2)) (nomark _))) (fun _ _ _ _ _ => (ge_sl (GE.of_pure (gp_var (pv 7))) (go_some (GE.of_pure gp_int)) go_none)) (by decide) (mem1 rfl) (mem1 (Nat.le_of_ble_eq_true rfl))))
      (gss_cons (gs_setE (i := 8) sc__planned.nd rfl (Or.inl rfl) (ge_cbT cax_tuple (by rfl) T.z_tuple (by decide +kernel) (gd_cons (ge_frz (ge_lcR1 (own := [("deed", 9)]) (t := .name 9) rfl sc__planned.nd (gi_tup (GE.of_pure (gp_k T.g_BOTH_DEEDS rfl))) (blkOk_by (own := [("deed", 9)]) (N := ["trust", "settled", "actor", "given", "other", "borne", "row", "wish", "deeds", "deed", "part", "since", "until", "passes"]) (sc := defScope s__planned) (by decide +kernel)) (fun _ _ _ _ _ => (pg_name (i := 9) sc__planned.nd rfl (Or.inr rfl))) (fun _ _ _ _ _ => (gt_tru (ge_cbB (cax_any rfl) (by rfl) T.z_any (by decide +kernel) (gd_cons (ge_frz (ge_lcR (own := [("part", 10)]) (t := .name 10) rfl sc__planned.nd (gi_list (ge_keep (pv 5))) (blkOk_by (own := [("part", 10)]) (N := ["trust", "settled", "actor", "given", "other", "borne", "row", "wish", "deeds", "deed", "part", "since", "until", "passes"]) (sc := relS _ (defScope s__planned)) (by decide +kernel)) (fun _ _ _ _ _ => (pg_name (i := 10) sc__planned.nd rfl (Or.inl rfl))) (fun _ _ _ _ _ => (GE.of_pure (gp_cmp (opx_in hr.u65) (gp_var (pv 9)) (gp_ix ixx (gp_var (pv 10)) gp_int (fun _ _ => rfl)) (by rfl)))) (by decide) (mem1 rfl) (mem1 (Nat.le_of_ble_eq_true rfl)))) gd_nil)))) (fun _ _ _ _ _ => (GE.of_pure (gp_var (pv 9)))) (by decide) (mem1 rfl) (mem1 (Nat.le_of_ble_eq_true rfl)))) gd_nil)))
      (gss_cons (gs_setE (i := 11) sc__planned.nd rfl (Or.inl rfl) (ge_cbB (cax_minL rfl) (by rfl) T.z_min (by decide +kernel) (gd_cons (ge_frz (ge_lcR (own := [("part", 10)]) (t := .name 10) rfl sc__planned.nd (gi_list (ge_keep (pv 5))) (blkOk_by (own := [("part", 10)]) (N := ["trust", "settled", "actor", "given", "other", "borne", "row", "wish", "deeds", "deed", "part", "since", "until", "passes"]) (sc := defScope s__planned) (by decide +kernel)) (fun _ _ _ _ _ => (pg_name (i := 10) sc__planned.nd rfl (Or.inl rfl))) (fun _ _ _ _ _ => (GE.of_pure (gp_ix ixx (gp_var (pv 10)) gp_int (fun _ _ => rfl)))) (by decide) (mem1 rfl) (mem1 (Nat.le_of_ble_eq_true rfl)))) gd_nil)))
      (gss_cons (gs_setE (i := 12) sc__planned.nd rfl (Or.inl rfl) (ge_cbB (cax_maxL rfl) (by rfl) T.z_max (by decide +kernel) (gd_cons (ge_frz (ge_lcR (own := [("part", 10)]) (t := .name 10) rfl sc__planned.nd (gi_list (ge_keep (pv 5))) (blkOk_by (own := [("part", 10)]) (N := ["trust", "settled", "actor", "given", "other", "borne", "row", "wish", "deeds", "deed", "part", "since", "until", "passes"]) (sc := defScope s__planned) (by decide +kernel)) (fun _ _ _ _ _ => (pg_name (i := 10) sc__planned.nd rfl (Or.inl rfl))) (fun _ _ _ _ _ => (GE.of_pure (gp_ix ixx (gp_var (pv 10)) gp_int (fun _ _ => rfl)))) (by decide) (mem1 rfl) (mem1 (Nat.le_of_ble_eq_true rfl)))) gd_nil)))
      (gss_cons (gs_setE (i := 13) sc__planned.nd rfl (Or.inl rfl) (ge_maxD rfl (by rfl) T.z_max (ge_frz (ge_lcR (own := [("row", 6)]) (t := .name 6) rfl sc__planned.nd (gi_list (GE.of_pure (gp_var (pv 3)))) (blkOk_by (own := [("row", 6)]) (N := ["trust", "settled", "actor", "given", "other", "borne", "row", "wish", "deeds", "deed", "part", "since", "until", "passes"]) (sc := defScope s__planned) (by decide +kernel)) (fun _ _ _ _ _ => (pg_name (i := 6) sc__planned.nd rfl (Or.inl rfl))) (fun _ _ _ _ _ => (GE.of_pure (gp_op opx_add (gp_ix ixx (gp_var (pv 6)) gp_int (fun _ _ => rfl)) gp_int))) (by decide) (mem1 rfl) (mem1 (Nat.le_of_ble_eq_true rfl)))) pe_int))
      (gss_one (gs_ret (ge_tupD (gd_cons (ge_dix (u1 hr) (GE.of_pure (gp_var (pv 1))) (GE.of_pure (gp_var (pv 2))) (fun _ _ => rfl)) (gd_cons (GE.of_pure (gp_var (pv 2))) (gd_cons (GE.of_pure (gp_var (pv 8))) (gd_cons (GE.of_pure (gp_var (pv 11))) (gd_cons (GE.of_pure (gp_var (pv 12))) (gd_cons (GE.of_pure (gp_var (pv 13))) gd_nil)))))))))))))))), fun ds Q ⟨oo, ns, ts, xs, cs, a, n, e, hN, wd, g, root, am, lo, q⟩ => ?_⟩
  subst e
  refine x_start (e := [some (.f (.tup [.str oo, .tup (ts.map Ti.d), .tup (xs.map Wi.d)])), some (.f (cD cs)), some (.f (.str a)), none, none, none, none, none, none, none, none, none, none, none]) rfl ?_
  walk_at "x"
  have cl := g.ci.ok.len
  have sz : (4000 : Nat) ≤ sizeLine := by rw [sizeLine_eq]; omega
  have aok : PyData.strOk a = true := by
    obtain ⟨p, hp, rfl⟩ := List.mem_map.mp am
    exact name_cp (g.ci.ok.a p hp)
  refine ⟨by unfold cP; rw [List.length_map, List.length_map, List.length_map]; omega, fun i acc e => ∃ (rs : List Rw) (x4 : Option Sl), acc = rs.map Rw.d ∧ rs.length ≤ i ∧ (∀ r ∈ rs, PRow xs cs r ∧ look cs r.h = some a) ∧ (∀ p ∈ cs.take i, p.2 = a → ∃ r ∈ rs, r.h = p.1) ∧ e = [some (.f (.tup [.str oo, .tup (ts.map Ti.d), .tup (xs.map Wi.d)])), some (.f (cD cs)), some (.f (.str a)), none, x4, none, none, none, none, none, none, none, none, none], ⟨[], _, rfl, Nat.le_refl _, nofun, nofun, rfl⟩, ?_, ?_⟩
  · rintro i d acc e hd ⟨rs, x4, rfl, rl, hr1, hr2, rfl⟩
    obtain ⟨p, hp, rfl⟩ := case_at hd
    have hm := List.mem_of_getElem? hp
    refine ⟨_, rfl, ?_⟩
    dsimp only [List.map_cons, List.map_nil, wipeE, setE, Tgt.js, List.set_cons_zero, List.set_cons_succ]
    walk_at "x"
    have lk : look cs p.1 = some p.2 := look_of g.ci.ok.nd hm
    refine ⟨cP cs, rfl, ?_⟩
    walk_at "x"
    refine ⟨.inr p.1, .str p.2, rfl, by rw [getP_case, lk]; rfl, ?_⟩
    refine ⟨_, rfl, ?_⟩
    walk_at "x"
    refine x_eqD (okPy_str (name_cp (g.ci.ok.b p hm))) (okPy_str aok) ?_
    rw [eq_strs]
    have nx : ∀ q ∈ cs.take (i + 1), q ∈ cs.take i ∨ q = p := fun q hq => by
      rw [Fx.take_snoc hp] at hq
      rcases List.mem_append.mp hq with h | h
      · exact .inl h
      · exact .inr (List.mem_singleton.mp h)
    cases hc : p.2 == a with
    | false =>
      refine ⟨_, rfl, ?_⟩
      rw [if_neg Bool.false_ne_true]
      refine ⟨rs, _, rfl, by omega, hr1, fun q hq hqa => ?_, rfl⟩
      rcases nx q hq with h | rfl
      · exact hr2 q h hqa
      · rw [hqa, beq_self_eq_true] at hc; cases hc
    | true =>
      obtain rfl : p.2 = a := eq_of_beq hc
      have n1 : 1 ≤ n := lo p.1 1 (by show (some p.1).bind (look cs) = some p.2; exact lk)
      obtain ⟨N, rfl⟩ : ∃ k, N = k + 1 := ⟨N - 1, by omega⟩
      refine ⟨_, rfl, ?_⟩
      rw [if_pos rfl]
      walk_at "x"
      refine ⟨oo, ns, ts, xs, cs, p.1, n - 1, rfl, by omega, wd, g, root, List.mem_map_of_mem hm, fun x j h => ?_, fun r hr pr => ?_⟩
      · have := lo x (j + 1) (by show (goes cs j x).bind (look cs) = some p.2; rw [h]; exact lk)
        omega
      · walk_at "x"
        refine ⟨rs ++ [r], _, by rw [List.map_append]; rfl, by rw [List.length_append]; exact Nat.succ_le_succ rl, fun r' h => ?_, fun q hq hqa => ?_, rfl⟩
        · rcases List.mem_append.mp h with h | h
          · exact hr1 r' h
          · rw [List.mem_singleton.mp h]; exact ⟨pr, by rw [hr]; exact lk⟩
        · rcases nx q hq with h | rfl
          · obtain ⟨r', h1, h2⟩ := hr2 q h hqa
            exact ⟨r', List.mem_append_left _ h1, h2⟩
          · exact ⟨r, List.mem_append_right _ (List.mem_singleton.mpr rfl), hr⟩
  rintro acc e ⟨rs, x4, rfl, rl, hr1, hr2, rfl⟩
  have un : Under xs cs a rs := ⟨hr1, fun o ho => by
    refine hr2 (o, a) ?_ rfl
    rw [List.take_of_length_le (by unfold cP; rw [List.length_map, List.length_map, List.length_map]; exact Nat.le_refl _)]
    exact look_mem ho⟩
  walk_at "x"
  let b3 : Rw → D := fun r => .tup [r.p, .int r.s, .int r.u]
  have rl6 : rs.length ≤ 6 := Nat.le_trans rl (by unfold cP; rw [List.length_map, List.length_map, List.length_map]; exact cl)
  refine ⟨by rw [List.length_map]; omega, fun i acc e => acc = (rs.take i).map b3 ∧ ∃ x6, e = [some (.f (.tup [.str oo, .tup (ts.map Ti.d), .tup (xs.map Wi.d)])), some (.f (cD cs)), some (.f (.str a)), some (.f (.lst (rs.map Rw.d))), none, none, x6, none, none, none, none, none, none, none], ⟨rfl, _, rfl⟩, ?_, ?_⟩
  · rintro i d acc e hd ⟨rfl, x6, rfl⟩
    rw [List.getElem?_map] at hd
    obtain ⟨r, hri, rfl⟩ := Option.map_eq_some_iff.mp hd
    refine ⟨_, rfl, ?_⟩
    dsimp only [List.map_cons, List.map_nil, wipeE, setE, Tgt.js, List.set_cons_zero, List.set_cons_succ]
    rw [show r.d = .tup [.str r.g, .str r.h, r.p, .int r.s, .int r.u, .int r.k] from rfl]
    walk_at "x"
    refine x_slT (ds' := [r.p, .int r.s, .int r.u]) rfl ?_
    exact ⟨_, rfl, by rw [Fx.take_snoc hri, List.map_append]; rfl, _, rfl⟩
  rintro acc e ⟨rfl, x6, rfl⟩
  rw [List.length_map, List.take_length]
  walk_at "x"
  let w3 : Wi → D := fun x => .tup [x.p, .int x.s, .int x.u]
  have x6' := wd.tr.x6
  refine ⟨by rw [List.length_map]; omega, fun i acc e => acc = (ownW (xs.take i) a).map w3 ∧ ∃ x7, e = [some (.f (.tup [.str oo, .tup (ts.map Ti.d), .tup (xs.map Wi.d)])), some (.f (cD cs)), some (.f (.str a)), some (.f (.lst (rs.map Rw.d))), none, some (.own (.lst (rs.map b3))), none, x7, none, none, none, none, none, none], ⟨rfl, _, rfl⟩, ?_, ?_⟩
  · rintro i d acc e hd ⟨rfl, x7, rfl⟩
    rw [List.getElem?_map] at hd
    obtain ⟨x, hxi, rfl⟩ := Option.map_eq_some_iff.mp hd
    refine ⟨_, rfl, ?_⟩
    dsimp only [List.map_cons, List.map_nil, wipeE, setE, Tgt.js, List.set_cons_zero, List.set_cons_succ]
    rw [show x.d = .tup [.str x.a, x.p, .int x.s, .int x.u] from rfl]
    walk_at "x"
    refine x_eqD (okPy_str (name_cp (wd.tr.hxs x (List.mem_of_getElem? hxi)).a)) (okPy_str aok) ?_
    rw [eq_strs]
    cases hc : x.a == a with
    | false =>
      refine ⟨_, rfl, ?_⟩
      rw [if_neg Bool.false_ne_true]
      exact ⟨by unfold ownW; rw [Fx.take_snoc hxi, List.filter_append, List.filter_cons_of_neg (by rw [hc]; decide), List.filter_nil, List.append_nil], _, rfl⟩
    | true =>
      refine ⟨_, rfl, ?_⟩
      rw [if_pos rfl]
      walk_at "x"
      refine x_slT (ds' := [x.p, .int x.s, .int x.u]) rfl ?_
      exact ⟨_, rfl, by unfold ownW; rw [Fx.take_snoc hxi, List.filter_append, List.filter_cons_of_pos (p := fun x : Wi => x.a == a) hc, List.filter_nil, List.map_append]; rfl, _, rfl⟩
  rintro acc e ⟨rfl, x7, rfl⟩
  rw [List.length_map, List.take_length]
  have ol : (ownW xs a).length ≤ 6 := Nat.le_trans (List.length_filter_le ..) x6'
  walk_at "x"
  refine ⟨_, _, rfl, rfl, by rw [List.length_map, List.length_map]; exact Nat.le_trans (by omega) sz, ?_⟩
  walk_at "x"
  obtain ⟨bq, ebq, e1, e2, e3, pdk⟩ : ∃ bq : List (D × Int × Int), rs.map b3 ++ (ownW xs a).map w3 = bq.map pt3 ∧ bq.map (·.1) = rs.map (·.p) ++ (ownW xs a).map (·.p) ∧ bq.map (·.2.1) = rs.map (·.s) ++ (ownW xs a).map (·.s) ∧ bq.map (·.2.2) = rs.map (·.u) ++ (ownW xs a).map (·.u) ∧ ∀ q ∈ bq, PdOk q.1 := by
    refine ⟨rs.map (fun r => (r.p, r.s, r.u)) ++ (ownW xs a).map (fun x => (x.p, x.s, x.u)), ?_, ?_, ?_, ?_, fun q hq => ?_⟩
    · rw [List.map_append, List.map_map, List.map_map]; rfl
    · rw [List.map_append, List.map_map, List.map_map]; rfl
    · rw [List.map_append, List.map_map, List.map_map]; rfl
    · rw [List.map_append, List.map_map, List.map_map]; rfl
    · rcases List.mem_append.mp hq with h | h
      · obtain ⟨r, hr, rfl⟩ := List.mem_map.mp h
        show PdOk r.p
        rw [(hr1 r hr).1.p]
        exact pd_ds _
      · obtain ⟨x, hx, rfl⟩ := List.mem_map.mp h
        exact pd_all (wd.tr.hxs x (List.mem_filter.mp hx).1).p
  have bql : bq.length ≤ 12 := by
    have := congrArg List.length ebq
    rw [List.length_append, List.length_map, List.length_map, List.length_map] at this
    omega
  have fq : (fun d => bq.any fun q => memB (deedsL q.1) d) = fun d => (rs.map (·.p) ++ (ownW xs a).map (·.p)).any fun p => memB (deedsL p) d := funext fun d => by rw [← e1, List.any_map]; rfl
  rw [ebq]
  refine ⟨fun i acc e => acc = ([D.str "look", .str "set"].take i).filter (fun d => bq.any fun q => memB (deedsL q.1) d) ∧ ∃ sb x9 x10, (sb = some (.own (.lst (bq.map pt3))) ∨ sb = some (.f (.lst (bq.map pt3)))) ∧ e = [some (.f (.tup [.str oo, .tup (ts.map Ti.d), .tup (xs.map Wi.d)])), some (.f (cD cs)), some (.f (.str a)), some (.f (.lst (rs.map Rw.d))), none, sb, none, none, none, x9, x10, none, none, none], ⟨rfl, _, _, _, .inl rfl, rfl⟩, ?_, ?_⟩
  · rintro i d acc e hd ⟨rfl, sb, x9, x10, hsb, rfl⟩
    have hd : [D.str "look", .str "set"][i]? = some d := hd
    have dok : okPy d = true := by
      rcases List.mem_cons.mp (List.mem_of_getElem? hd) with e | h
      · rw [e]; decide +kernel
      · rw [List.mem_singleton.mp h]; decide +kernel
    refine ⟨_, rfl, ?_⟩
    dsimp only [List.map_cons, List.map_nil, wipeE, setE, Tgt.js, List.set_cons_zero, List.set_cons_succ]
    walk_at "x"
    refine x_keepB hsb rfl ?_
    dsimp only [List.set_cons_zero, List.set_cons_succ]
    walk_at "x"
    refine ⟨by rw [List.length_map]; omega, fun j acc e => acc = ((bq.take j).map (fun q => memB (deedsL q.1) d)).map D.bl ∧ ∃ x10, e = [some (.f (.tup [.str oo, .tup (ts.map Ti.d), .tup (xs.map Wi.d)])), some (.f (cD cs)), some (.f (.str a)), some (.f (.lst (rs.map Rw.d))), none, some (.f (.lst (bq.map pt3))), none, none, none, some (.f d), x10, none, none, none], ⟨rfl, _, rfl⟩, ?_, ?_⟩
    · rintro j d2 acc e hd2 ⟨rfl, x10, rfl⟩
      rw [List.getElem?_map] at hd2
      obtain ⟨q3, hq3, rfl⟩ := Option.map_eq_some_iff.mp hd2
      refine ⟨_, rfl, ?_⟩
      dsimp only [List.map_cons, List.map_nil, wipeE, setE, Tgt.js, List.set_cons_zero, List.set_cons_succ]
      rw [show pt3 q3 = .tup [q3.1, .int q3.2.1, .int q3.2.2] from rfl]
      walk_at "x"
      refine in_pd (pdk q3 (List.mem_of_getElem? hq3)) dok ?_
      walk_at "x"
      exact ⟨by rw [Fx.take_snoc hq3, List.map_append, List.map_append]; rfl, _, rfl⟩
    rintro acc e ⟨rfl, x10, rfl⟩
    rw [List.length_map, List.take_length]
    try dsimp only [List.map_cons, List.map_nil, wipeE, List.set_cons_zero, List.set_cons_succ]
    walk_at "x"
    refine x_any ?_
    rw [List.any_map, show (id ∘ fun q : D × Int × Int => memB (deedsL q.1) d) = fun q => memB (deedsL q.1) d from rfl]
    cases hc : bq.any fun q => memB (deedsL q.1) d with
    | true =>
      walk_at "x"
      exact ⟨by rw [Fx.take_snoc hd, List.filter_append, List.filter_cons_of_pos (p := fun d => bq.any fun q => memB (deedsL q.1) d) hc, List.filter_nil], _, _, _, .inr rfl, rfl⟩
    | false =>
      walk_at "x"
      exact ⟨by rw [Fx.take_snoc hd, List.filter_append, List.filter_cons_of_neg (p := fun d => bq.any fun q => memB (deedsL q.1) d) (by rw [hc]; decide), List.filter_nil, List.append_nil], _, _, _, .inr rfl, rfl⟩
  rintro acc e ⟨rfl, sb, x9, x10, hsb, rfl⟩
  rw [show ([D.str "look", D.str "set"] : List D).length = 2 from rfl, show ([D.str "look", D.str "set"] : List D).take 2 = [D.str "look", D.str "set"] from rfl, fq]
  have bne : bq ≠ [] := fun e => by
    obtain ⟨x, hx, hr⟩ := root a am
    rw [e] at ebq
    obtain ⟨z1, z2⟩ := List.append_eq_nil_iff.mp ebq
    rw [List.map_eq_nil_iff] at z1 z2
    rcases below_case un (List.mem_filter.mpr ⟨hx, borne_iff.mpr hr⟩) with h | ⟨r, h, _⟩
    · rw [z2] at h; cases h
    · rw [z1] at h; cases h
  obtain ⟨gv, lk⟩ := key_look g.ci.ok.nd am
  have ru := fun {s e m : Int} => @row_up xs cs a gv rs un lk s e m
  rw [← e2, ← e3] at ru
  generalize ([D.str "look", D.str "set"].filter fun d => (rs.map (·.p) ++ (ownW xs a).map (·.p)).any fun p => memB (deedsL p) d) = DS at ru
  walk_at "x"
  refine x_keepB hsb rfl ?_
  dsimp only [wipeE, setE, List.map_cons, List.map_nil, List.set_cons_zero, List.set_cons_succ]
  walk_at "x"
  refine ⟨by rw [List.length_map]; omega, fun j acc e => acc = ((bq.take j).map (·.2.1)).map D.int ∧ ∃ x10, e = [some (.f (.tup [.str oo, .tup (ts.map Ti.d), .tup (xs.map Wi.d)])), some (.f (cD cs)), some (.f (.str a)), some (.f (.lst (rs.map Rw.d))), none, some (.f (.lst (bq.map pt3))), none, none, some (.f (.tup DS)), none, x10, none, none, none], ⟨rfl, _, rfl⟩, ?_, ?_⟩
  · rintro j d2 acc e hd2 ⟨rfl, x10, rfl⟩
    rw [List.getElem?_map] at hd2
    obtain ⟨q3, hq3, rfl⟩ := Option.map_eq_some_iff.mp hd2
    refine ⟨_, rfl, ?_⟩
    dsimp only [List.map_cons, List.map_nil, wipeE, setE, Tgt.js, List.set_cons_zero, List.set_cons_succ]
    rw [show pt3 q3 = .tup [q3.1, .int q3.2.1, .int q3.2.2] from rfl]
    walk_at "x"
    exact ⟨by rw [Fx.take_snoc hq3, List.map_append, List.map_append]; rfl, _, rfl⟩
  rintro acc e ⟨rfl, x10, rfl⟩
  rw [List.length_map, List.take_length]
  try dsimp only [List.map_cons, List.map_nil, wipeE, List.set_cons_zero, List.set_cons_succ]
  walk_at "x"
  refine ⟨bq.map (·.2.1), rfl, by rw [List.length_map]; exact List.length_pos_iff.mpr bne, fun s s1 s2 => ?_⟩
  walk_at "x"
  refine x_keepB (.inr rfl) rfl ?_
  dsimp only [wipeE, setE, List.map_cons, List.map_nil, List.set_cons_zero, List.set_cons_succ]
  walk_at "x"
  refine ⟨by rw [List.length_map]; omega, fun j acc e => acc = ((bq.take j).map (·.2.2)).map D.int ∧ ∃ x10, e = [some (.f (.tup [.str oo, .tup (ts.map Ti.d), .tup (xs.map Wi.d)])), some (.f (cD cs)), some (.f (.str a)), some (.f (.lst (rs.map Rw.d))), none, some (.f (.lst (bq.map pt3))), none, none, some (.f (.tup DS)), none, x10, some (.f (.int s)), none, none], ⟨rfl, _, rfl⟩, ?_, ?_⟩
  · rintro j d2 acc e hd2 ⟨rfl, x10, rfl⟩
    rw [List.getElem?_map] at hd2
    obtain ⟨q3, hq3, rfl⟩ := Option.map_eq_some_iff.mp hd2
    refine ⟨_, rfl, ?_⟩
    dsimp only [List.map_cons, List.map_nil, wipeE, setE, Tgt.js, List.set_cons_zero, List.set_cons_succ]
    rw [show pt3 q3 = .tup [q3.1, .int q3.2.1, .int q3.2.2] from rfl]
    walk_at "x"
    exact ⟨by rw [Fx.take_snoc hq3, List.map_append, List.map_append]; rfl, _, rfl⟩
  rintro acc e ⟨rfl, x10, rfl⟩
  rw [List.length_map, List.take_length]
  try dsimp only [List.map_cons, List.map_nil, wipeE, List.set_cons_zero, List.set_cons_succ]
  walk_at "x"
  refine ⟨bq.map (·.2.2), rfl, by rw [List.length_map]; exact List.length_pos_iff.mpr bne, fun u u1 u2 => ?_⟩
  walk_at "x"
  refine ⟨by rw [List.length_map]; omega, fun j acc e => acc = ((rs.take j).map (fun r => r.k + 1)).map D.int ∧ ∃ x6, e = [some (.f (.tup [.str oo, .tup (ts.map Ti.d), .tup (xs.map Wi.d)])), some (.f (cD cs)), some (.f (.str a)), some (.f (.lst (rs.map Rw.d))), none, some (.f (.lst (bq.map pt3))), x6, none, some (.f (.tup DS)), none, none, some (.f (.int s)), some (.f (.int u)), none], ⟨rfl, _, rfl⟩, ?_, ?_⟩
  · rintro j d2 acc e hd2 ⟨rfl, x6, rfl⟩
    rw [List.getElem?_map] at hd2
    obtain ⟨r3, hr3, rfl⟩ := Option.map_eq_some_iff.mp hd2
    refine ⟨_, rfl, ?_⟩
    dsimp only [List.map_cons, List.map_nil, wipeE, setE, Tgt.js, List.set_cons_zero, List.set_cons_succ]
    rw [show r3.d = .tup [.str r3.g, .str r3.h, r3.p, .int r3.s, .int r3.u, .int r3.k] from rfl]
    walk_at "x"
    exact ⟨by rw [Fx.take_snoc hr3, List.map_append, List.map_append]; rfl, _, rfl⟩
  rintro acc e ⟨rfl, x6, rfl⟩
  rw [List.length_map, List.take_length]
  try dsimp only [List.map_cons, List.map_nil, wipeE, List.set_cons_zero, List.set_cons_succ]
  walk_at "x"
  refine ⟨rs.map (fun r => r.k + 1), rfl, fun m m0 m1 m2 => ?_⟩
  walk_at "x"
  refine ⟨cP cs, rfl, ?_⟩
  walk_at "x"
  refine ⟨.inr a, .str gv, rfl, by rw [getP_case, lk]; rfl, ?_⟩
  walk_at "x"
  exact q _ rfl (ru s1 s2 u1 u2 (fun e => m0 (by rw [e]; rfl)) (fun ne => m1 fun e => ne (List.map_eq_nil_iff.mp e)) fun r hr => m2 _ (List.mem_map.mpr ⟨r, hr, rfl⟩))
theorem ok_pl0 (k : Nat) (A : At K mg "_planned" s__planned ["trust", "settled", "actor"]) : Cal P w K mg base (k + 1) "_planned" (spW K tabs (liftF (wPl 0))) := by
  refine A.of fun f fd F => fx_fnF F sc__planned (fun ds Q h => h.elim) fun cdv A outer s H E TT P0 σ0 hcd hr => ⟨fun _ _ => False, ⟨⟨fun pins s σ H D I ⟨_, _, _, _, h⟩ => h.elim⟩, fun _ _ _ _ h => h⟩, fun ds Q h => h⟩
theorem ok_plN (T : Txt K mg) (A : At K mg "_planned" s__planned ["trust", "settled", "actor"]) : ∀ n, Cal P w K mg base (n + 3) "_planned" (spW K tabs (liftF (wPl n)))
  | 0 => ok_pl0 2 A
  | n + 1 => ok_pl (k := n + 3) (by omega) T (ok_plN T A n) A
theorem pl_planR {ds : List D} {Q : Sl → Prop} (h : wPlanR ds Q) : wPl 7 ds Q := by
  obtain ⟨oo, ns, ts, xs, cs, a, h1, h2, h3, h4, h5, q⟩ := h
  refine ⟨oo, ns, ts, xs, cs, a, 6, h1, Nat.le_refl _, h2, h3, h4, h5, fun x j e => ?_, q⟩
  obtain ⟨n, l, e2⟩ := reach_le ⟨j, e⟩
  have := goes_inj h3.ring e e2
  have := h3.ci.ok.len
  omega
theorem cal_imp {k : Nat} {x : Str} {W1 W2 : WFn} (c : Cal P w K mg base k x (spW K tabs (liftF W1))) (i : ∀ ds Q, W2 ds Q → W1 ds Q) : Cal P w K mg base k x (spW K tabs (liftF W2)) := by
  obtain ⟨f, fd, ps, F, r⟩ := c.ex
  exact ⟨⟨f, fd, ps, F.imp fun vs H Q E ⟨T, as, Fa, re, ds, e, q⟩ => ⟨T, as, Fa, re, ds, e, i ds _ q⟩, r⟩⟩
theorem ok_planR (T : Txt K mg) (A : At K mg "_planned" s__planned ["trust", "settled", "actor"]) : Cal P w K mg base 10 "_planned" (spW K tabs (liftF wPlanR)) := cal_imp (ok_plN T A 7) fun _ _ h => pl_planR h

end
section
variable {P : Program} {w : World} {K : PySem.W.Frag} {mg : Str → Option Value} {base : Heap} {tabs : List Addr}
/-! ### what is told, shown -/
/-! ### the plan that is told -/
structure ToldP (oo : Str) (ns : List Str) (ts : List Ti) (xs : List Wi) (c : Case) (rs : List Rw) : Prop where
  lc : LeastC oo ns ts xs c
  op : openV oo ts xs (some (c.length : Int)) 7 [] = some c
  pm : (rs.map (·.h)).Perm (c.map (·.1))
  so : sortedS (rs.map (·.h)) = true
  rows : ∀ r ∈ rs, PRow xs c r
def rsC (rs : List Rw) : Case := rs.map fun r => (r.h, r.g)
theorem rsC_keys (rs : List Rw) : (rsC rs).map (·.1) = rs.map (·.h) := by unfold rsC; rw [List.map_map]; rfl
theorem nodup_of_map {α β : Type} {f : α → β} {l : List α} (h : (l.map f).Nodup) : l.Nodup := List.Pairwise.of_map f (fun a b ne e => ne (by rw [e])) h
section
variable {oo : Str} {ns : List Str} {ts : List Ti} {xs : List Wi} {c : Case} {rs : List Rw}
theorem ToldP.perm (t : ToldP oo ns ts xs c rs) : (rsC rs).Perm c := by
  have n1 : ((rsC rs).map (·.1)).Nodup := by rw [rsC_keys]; exact t.pm.nodup_iff.mpr t.lc.1.ci.ok.nd
  refine (List.perm_ext_iff_of_nodup (nodup_of_map n1) (nodup_of_map t.lc.1.ci.ok.nd)).mpr fun p => ?_
  constructor
  · intro h
    obtain ⟨r, hr, rfl⟩ := List.mem_map.mp h
    exact look_mem (t.rows r hr).g
  · intro h
    have : p.1 ∈ rs.map (·.h) := t.pm.mem_iff.mpr (List.mem_map.mpr ⟨p, h, rfl⟩)
    obtain ⟨r, hr, e⟩ := List.mem_map.mp this
    have h1 := (t.rows r hr).g
    rw [show r.h = p.1 from e, look_of t.lc.1.ci.ok.nd h] at h1
    refine List.mem_map.mpr ⟨r, hr, ?_⟩
    show (r.h, r.g) = p
    rw [show r.h = p.1 from e, ← Option.some.inj h1]
theorem ToldP.good (t : ToldP oo ns ts xs c rs) : GoodC oo ns ts xs (rsC rs) := good_perm t.lc.1 t.perm
theorem ToldP.root (wd : Wd oo ns ts xs) (t : ToldP oo ns ts xs c rs) : Rooted xs (rsC rs) := rooted_look t.perm (look_perm t.lc.1.ci.ok.nd t.perm) (least_rooted wd t.lc.1 t.lc.2)
theorem ToldP.len (t : ToldP oo ns ts xs c rs) : rs.length = c.length := by
  have := t.pm.length_eq
  rwa [List.length_map, List.length_map] at this
theorem ToldP.acy (t : ToldP oo ns ts xs c rs) : Acy (rsC rs) := fun x _ _ => acy_of t.good.ring x
theorem ToldP.row (t : ToldP oo ns ts xs c rs) : ∀ r ∈ rs, RowOf xs (rsC rs) r := fun r hr => row_bridge t.good.ci.ok.nd t.acy (prow_look (look_perm t.lc.1.ci.ok.nd t.perm) (t.rows r hr))
theorem ToldP.W (wd : Wd oo ns ts xs) (no : oo ∉ ns) (t : ToldP oo ns ts xs c rs) : ∀ r ∈ rs, r.W := fun r hr => row_W wd.tr (good_B wd no t.good) (good_fitsB t.good (t.root wd)) (t.row r hr)
end
/-! ### more trust, less wished -/
theorem time_ties {ts ts' : List Ti} {xs : List Wi} {c : Case} {a g : Str} (h : ∀ t ∈ ts, ∃ t' ∈ ts', t'.a = t.a ∧ t'.b = t.b ∧ t'.s ≤ t.s ∧ t.u ≤ t'.u) (ht : timeV ts xs c a g = false) : timeV ts' xs c a g = false := by
  unfold timeV at ht ⊢
  rw [Bool.not_eq_false'] at ht ⊢
  obtain ⟨t, h1, h2⟩ := List.any_eq_true.mp ht
  obtain ⟨h3, h4⟩ := List.mem_filter.mp h1
  obtain ⟨t', h5, h6, h7, h8, h9⟩ := h t h3
  refine List.any_eq_true.mpr ⟨t', List.mem_filter.mpr ⟨h5, by rw [h6, h7]; exact h4⟩, ?_⟩
  unfold bearB at h2 ⊢
  rw [List.all_eq_true] at h2 ⊢
  intro x hx
  have := h2 x hx
  rw [Bool.and_eq_true, decide_eq_true_eq, decide_eq_true_eq] at this ⊢
  exact ⟨Int.le_trans h8 this.1, Int.le_trans this.2 h9⟩
/-- ties more, or wider -/
theorem good_ties {oo : Str} {ns : List Str} {ts ts' : List Ti} {xs : List Wi} {c : Case} (h : ∀ t ∈ ts, ∃ t' ∈ ts', t'.a = t.a ∧ t'.b = t.b ∧ t'.s ≤ t.s ∧ t.u ≤ t'.u) (g : GoodC oo ns ts xs c) : GoodC oo ns ts' xs c :=
  ⟨g.ci, fun p hp => by
    obtain ⟨t, h1, h2, h3⟩ := g.tied p hp
    obtain ⟨t', h4, h5, h6, _⟩ := h t h1
    exact ⟨t', h4, h6.trans h2, h5.trans h3⟩, g.ring, fun p hp => time_ties h (g.time p hp), g.nx⟩
/-- other wishes, each within what is borne -/
theorem good_wish {oo : Str} {ns : List Str} {ts : List Ti} {xs xs' : List Wi} {c : Case} (h : ∀ x' ∈ xs', (x'.a = oo ∨ x'.a ∈ c.map (·.1)) ∧ (∃ x ∈ xs, Reach c x.a x'.a ∧ x.s ≤ x'.s) ∧ ∃ y ∈ xs, Reach c y.a x'.a ∧ x'.u ≤ y.u) (g : GoodC oo ns ts xs c) : GoodC oo ns ts xs' c := by
  refine ⟨g.ci, g.tied, g.ring, fun p hp => ?_, next_no.mpr fun y hy ne => ?_⟩
  · have ht := g.time p hp
    unfold timeV at ht ⊢
    rw [Bool.not_eq_false'] at ht ⊢
    obtain ⟨t, h1, h2⟩ := List.any_eq_true.mp ht
    refine List.any_eq_true.mpr ⟨t, h1, ?_⟩
    unfold bearB at h2 ⊢
    rw [List.all_eq_true] at h2 ⊢
    intro x' hx'
    obtain ⟨h3, h4⟩ := List.mem_filter.mp hx'
    obtain ⟨_, ⟨x, h5, ⟨n, h6⟩, h7⟩, ⟨y, h8, ⟨m, h9⟩, h10⟩⟩ := h x' h3
    obtain ⟨k, h11⟩ := borne_iff.mp h4
    have r1 : Reach c x.a p.1 := ⟨n + k, by rw [goes_add, h6]; exact h11⟩
    have r2 : Reach c y.a p.1 := ⟨m + k, by rw [goes_add, h9]; exact h11⟩
    have e1 := h2 x (List.mem_filter.mpr ⟨h5, borne_iff.mpr r1⟩)
    have e2 := h2 y (List.mem_filter.mpr ⟨h8, borne_iff.mpr r2⟩)
    rw [Bool.and_eq_true, decide_eq_true_eq, decide_eq_true_eq] at e1 e2 ⊢
    exact ⟨Int.le_trans e1.1 h7, Int.le_trans h10 e2.2⟩
  · rcases List.mem_append.mp hy with h1 | h1
    · obtain ⟨x', hx', rfl⟩ := List.mem_map.mp h1
      exact (h x' hx').1.resolve_left ne
    · exact next_no.mp g.nx y (List.mem_append_right _ h1) ne
/-- how many leaves are told; eight where no plan is -/
def IsMany (oo : Str) (ns : List Str) (ts : List Ti) (xs : List Wi) (m : Int) : Prop := (m = 8 ∧ ∀ c, ¬ GoodC oo ns ts xs c) ∨ ∃ c, LeastC oo ns ts xs c ∧ m = (c.length : Int)
theorem many_le {oo : Str} {ns : List Str} {ts ts' : List Ti} {xs xs' : List Wi} {m m' : Int} (h : IsMany oo ns ts xs m) (h' : IsMany oo ns ts' xs' m') (i : ∀ c, GoodC oo ns ts xs c → ∃ c', GoodC oo ns ts' xs' c' ∧ c'.length ≤ c.length) : m' ≤ m := by
  rcases h with ⟨rfl, _⟩ | ⟨c, lc, rfl⟩
  · rcases h' with ⟨rfl, _⟩ | ⟨c', lc', rfl⟩
    · exact Int.le_refl _
    · have := good_len lc'.1
      omega
  · obtain ⟨c2, g2, l2⟩ := i c lc.1
    rcases h' with ⟨rfl, hn⟩ | ⟨c', lc', rfl⟩
    · exact absurd g2 (hn c2)
    · have := lc'.2 c2 g2
      omega

end
section
variable {P : Program} {w : World} {K : PySem.W.Frag} {mg : Str → Option Value} {base : Heap} {tabs : List Addr}
/-! ### parts of lists -/
theorem cut_any {ds : List D} {k : Nat} : Fx.cutD ds none (some (k : Int)) = ds.take k := by
  unfold Fx.cutD
  rw [HT.sIx_nat, HT.sIx_none, List.drop_zero, Nat.sub_zero, ← List.take_eq_take_min]
/-! ### the law: how many are told -/
def wMany : WFn := fun ds Q => ∃ (oo : Str) (ns : List Str) (ts : List Ti) (xs : List Wi), ds = [trustD oo ts xs] ∧ Wd oo ns ts xs ∧ oo ∉ ns ∧ ∀ m, IsMany oo ns ts xs m → Q (.f (.int m))
theorem mono__law_many : MonoF wMany := fun ds Q Q' i ⟨oo, ns, ts, xs, h1, h2, h3, q⟩ => ⟨oo, ns, ts, xs, h1, h2, h3, fun m h => i _ (q m h)⟩
theorem ok_many (T : Txt K mg) (c_least_plan : Cal P w K mg base 11 "least_plan" (spW K tabs (liftF wLeast))) (A : At K mg "_law_many" s__law_many ["trust"]) : Cal P w K mg base 12 "_law_many" (spW K tabs (liftF wMany)) := by
  refine A.of fun f fd F => fx_fnF F sc__law_many (fun ds Q ⟨_, _, _, _, h, _⟩ => by rw [h]; rfl) fun cdv A outer s H E TT P0 σ0 hcd hr => ⟨_, (gss_cons (gs_setE (i := 1) sc__law_many.nd rfl (Or.inl rfl) (ge_callF c_least_plan hr (by first | decide | omega) rfl rfl rfl mono_least_plan (gd_cons (GE.of_pure (gp_var (pv 0))) gd_nil)))
      (gss_one (gs_ret (ge_if (gt_cmpP (opx_eq hr.units) (gp_ix ixx (gp_var (pv 1)) gp_int (fun _ _ => rfl)) gp_str (nomark _)) (GE.of_pure gp_int) (ge_cbB cax_len (by rfl) T.z_len (by decide +kernel) (gd_cons (GE.of_pure (gp_ix ixx (gp_var (pv 1)) gp_int (fun _ _ => rfl))) gd_nil)))))), fun ds Q ⟨oo, ns, ts, xs, e, wd, no, q⟩ => ?_⟩
  subst e
  refine x_start (e := [some (.f (.tup [.str oo, .tup (ts.map Ti.d), .tup (xs.map Wi.d)])), none]) rfl ?_
  walk_at "x"
  refine ⟨oo, ns, ts, xs, rfl, wd, fun hno => ?_, fun c rs h1 h2 h3 h4 h5 => ?_⟩
  · walk_at "x"
    refine x_eqD (by decide +kernel) (by decide +kernel) ?_
    rw [show eqB (.str "none") (.str "none") = true by decide +kernel]
    walk_at "x"
    exact q 8 (.inl ⟨rfl, hno⟩)
  · walk_at "x"
    refine x_eqD (by decide +kernel) (by decide +kernel) ?_
    rw [show eqB (.str "plan") (.str "none") = false by decide +kernel]
    walk_at "x"
    refine q _ (.inr ⟨c, h1, ?_⟩)
    have := h3.length_eq
    rw [List.length_map, List.length_map] at this
    rw [List.length_map, this]
/-! ### along which ties leaves go -/
def goT (t : Ti) (r : Rw) : Bool := ((r.g == t.a) && (r.h == t.b)) && (decide (t.s ≤ r.s) && decide (r.u ≤ t.u))
def usedV (rs : List Rw) (t : Ti) : Bool := rs.any (goT t)
def wUsed : WFn := fun ds Q => ∃ (rs : List Rw) (t : Ti), ds = [.tup (rs.map Rw.d), t.d] ∧ (∀ r ∈ rs, r.W) ∧ rs.length ≤ 60 ∧ t.Ok ∧ Q (.f (.bl (usedV rs t)))
theorem mono__law_used : MonoF wUsed := fun ds Q Q' i ⟨rs, t, h1, h2, h3, h4, q⟩ => ⟨rs, t, h1, h2, h3, h4, i _ q⟩
theorem ok_used (T : Txt K mg) (A : At K mg "_law_used" s__law_used ["rows", "tie"]) : Cal P w K mg base 1 "_law_used" (spW K tabs (liftF wUsed)) := by
  refine A.of fun f fd F => fx_fnF F sc__law_used (fun ds Q ⟨_, _, h, _⟩ => by rw [h]; rfl) fun cdv A outer s H E TT P0 σ0 hcd hr => ⟨_, (gss_one (gs_ret (ge_cmp (opx_ne hr.units) (ge_frz (ge_lcR1 (own := [("row", 2)]) (t := .name 2) rfl sc__law_used.nd (gi_tup (GE.of_pure (gp_var (pv 0)))) (blkOk_by (own := [("row", 2)]) (N := ["rows", "tie", "row"]) (sc := defScope s__law_used) (by decide +kernel)) (fun _ _ _ _ _ => (pg_name (i := 2) sc__law_used.nd rfl (Or.inl rfl))) (fun _ _ _ _ _ => (GW.gt (gw_and (gt_cmp (opx_eq hr.units) (ge_sl (GE.of_pure (gp_var (pv 2))) go_none (go_some (GE.of_pure gp_int))) (ge_sl (GE.of_pure (gp_var (pv 1))) go_none (go_some (GE.of_pure gp_int))) (nomark _)) (gw_and (gt_cmpP opx_le (gp_ix ixx (gp_var (pv 1)) gp_int (fun _ _ => rfl)) (gp_ix ixx (gp_var (pv 2)) gp_int (fun _ _ => rfl)) (nomark _)) (gw_and1 (gt_cmpP opx_le (gp_ix ixx (gp_var (pv 2)) gp_int (fun _ _ => rfl)) (gp_ix ixx (gp_var (pv 1)) gp_int (fun _ _ => rfl)) (nomark _))))))) (fun _ _ _ _ _ => (GE.of_pure (gp_var (pv 2)))) (by decide) (mem1 rfl) (mem1 (Nat.le_of_ble_eq_true rfl)))) (ge_lstD gd_nil) (nomark _)))), fun ds Q ⟨rs, t, e, hrs, hl, ht, q⟩ => ?_⟩
  subst e
  refine x_start (e := [some (.f (.tup (rs.map Rw.d))), some (.f (.tup [.str t.a, .str t.b, .int t.s, .int t.u])), none]) rfl ?_
  walk_at "x"
  refine ⟨by rw [List.length_map]; omega, fun i acc e => acc = ((rs.take i).filter (goT t)).map Rw.d ∧ ∃ x2, e = [some (.f (.tup (rs.map Rw.d))), some (.f (.tup [.str t.a, .str t.b, .int t.s, .int t.u])), x2], ⟨rfl, _, rfl⟩, ?_, ?_⟩
  · rintro i d acc e hd ⟨rfl, x2, rfl⟩
    rw [List.getElem?_map] at hd
    obtain ⟨r, hr0, rfl⟩ := Option.map_eq_some_iff.mp hd
    have rw_ := hrs r (List.mem_of_getElem? hr0)
    have yes : goT t r = true → ((rs.take i).filter (goT t)).map Rw.d ++ [r.d] = ((rs.take (i + 1)).filter (goT t)).map Rw.d := fun h => by
      rw [Fx.take_snoc hr0, List.filter_append, List.filter_cons_of_pos h, List.filter_nil, List.map_append]; rfl
    have nope : goT t r = false → ((rs.take i).filter (goT t)).map Rw.d = ((rs.take (i + 1)).filter (goT t)).map Rw.d := fun h => by
      rw [Fx.take_snoc hr0, List.filter_append, List.filter_cons_of_neg (by rw [h]; decide), List.filter_nil, List.append_nil]
    have gq : goT t r = (((r.g == t.a) && (r.h == t.b)) && (decide (t.s ≤ r.s) && decide (r.u ≤ t.u))) := rfl
    refine ⟨_, rfl, ?_⟩
    dsimp only [List.map_cons, List.map_nil, wipeE, setE, Tgt.js, List.set_cons_zero, List.set_cons_succ]
    rw [show r.d = .tup [.str r.g, .str r.h, r.p, .int r.s, .int r.u, .int r.k] from rfl] at yes ⊢
    walk_at "x"
    refine x_slT (ds' := [.str r.g, .str r.h]) rfl ?_
    walk_at "x"
    refine x_slT (ds' := [.str t.a, .str t.b]) rfl ?_
    walk_at "x"
    refine x_eqD (pair_ok rw_.g rw_.h) (pair_ok (name_cp ht.a) (name_cp ht.b)) ?_
    rw [eqB_pair]
    cases hc : ((r.g == t.a) && (r.h == t.b)) with
    | false =>
      rw [hc, Bool.false_and] at gq
      walk_at "x"
      exact ⟨nope gq, _, rfl⟩
    | true =>
    rw [hc, Bool.true_and] at gq
    walk_at "x"
    refine x_iteD (fun h1 => ?_) (fun h1 => ?_)
    · rw [decide_eq_true h1, Bool.true_and] at gq
      walk_at "x"
      refine x_iteD (fun h2 => ?_) (fun h2 => ?_)
      · rw [decide_eq_true h2] at gq
        walk_at "x"
        exact ⟨yes gq, _, rfl⟩
      · rw [decide_eq_false h2] at gq
        walk_at "x"
        exact ⟨nope gq, _, rfl⟩
    · rw [decide_eq_false h1, Bool.false_and] at gq
      walk_at "x"
      exact ⟨nope gq, _, rfl⟩
  rintro acc e ⟨rfl, x2, rfl⟩
  rw [List.length_map, List.take_length]
  try dsimp only [List.map_cons, List.map_nil, wipeE, List.set_cons_zero, List.set_cons_succ]
  walk_at "x"
  have fok : okPy (.lst ((rs.filter (goT t)).map Rw.d)) = true := okPy_rows fun r h => hrs r (List.mem_filter.mp h).1
  refine x_neD fok (by decide +kernel) ?_
  rw [ne_nilD, any_ne]
  walk_at "x"
  exact q
/-! ### other trusts -/
theorem wd_ties {oo : Str} {ns : List Str} {ts ts' : List Ti} {xs : List Wi} (wd : Wd oo ns ts xs) (ok : ∀ t ∈ ts', t.Ok) (am : ∀ t ∈ ts', t.a ∈ oo :: ns ∧ t.b ∈ oo :: ns) (l : ts'.length ≤ 20) : Wd oo ns ts' xs :=
  ⟨⟨wd.tr.hoo, ok, l, wd.tr.hxs, wd.tr.x1, wd.tr.x6, wd.tr.nd, wd.tr.no⟩, ⟨am, wd.am.2⟩, wd.nl⟩
theorem wd_wish {oo : Str} {ns : List Str} {ts : List Ti} {xs xs' : List Wi} (wd : Wd oo ns ts xs) (ok : ∀ x ∈ xs', x.Ok) (am : ∀ x ∈ xs', x.a ∈ oo :: ns) (x1 : 1 ≤ xs'.length) (x6 : xs'.length ≤ 6) (nd : (xs'.map (·.a)).Nodup) (no : ∀ x ∈ xs', x.a ≠ oo) : Wd oo ns ts xs' :=
  ⟨⟨wd.tr.hoo, wd.tr.hts, wd.tr.tl, ok, x1, x6, nd, no⟩, ⟨wd.am.1, am⟩, wd.nl⟩
theorem good_sub {oo : Str} {ns : List Str} {ts : List Ti} {xs xs' : List Wi} {c : Case} (no : ∀ x ∈ xs, x.a ≠ oo) (h : ∀ x' ∈ xs', ∃ x ∈ xs, x.a = x'.a ∧ x.s ≤ x'.s ∧ x'.u ≤ x.u) (g : GoodC oo ns ts xs c) : GoodC oo ns ts xs' c :=
  good_wish (fun x' hx' => by
    obtain ⟨x, h1, h2, h3, h4⟩ := h x' hx'
    refine ⟨.inr ?_, ⟨x, h1, ⟨0, by rw [h2]; rfl⟩, h3⟩, ⟨x, h1, ⟨0, by rw [h2]; rfl⟩, h4⟩⟩
    rw [← h2]
    exact next_no.mp g.nx x.a (List.mem_append_left _ (List.mem_map.mpr ⟨x, h1, rfl⟩)) (no x h1)) g
section
variable {oo : Str} {ns : List Str} {ts : List Ti} {xs : List Wi} {c : Case} {rs : List Rw}
/-- the plan's leaves lie in ties that they go along -/
theorem used_tie (wd : Wd oo ns ts xs) (t : ToldP oo ns ts xs c rs) {r : Rw} (hr : r ∈ rs) : ∃ z ∈ ts, goT z r = true := by
  have ro := t.row r hr
  have ft := (good_fits t.good).2 _ _ ro.g _ _ ro.s ro.u
  unfold tieV at ft
  obtain ⟨z, hz, h1⟩ := List.any_eq_true.mp ft
  obtain ⟨h2, h3⟩ := List.mem_filter.mp hz
  refine ⟨z, h2, ?_⟩
  have h3 : ((z.a == r.g) && (z.b == r.h)) = true := h3
  have h1 : (decide (z.s ≤ r.s) && decide (r.u ≤ z.u)) = true := h1
  unfold goT
  rw [Bool.and_eq_true] at h3
  rw [h1, Bool.and_true, Bool.and_eq_true]
  exact ⟨beq_iff_eq.mpr (eq_of_beq h3.1).symm, beq_iff_eq.mpr (eq_of_beq h3.2).symm⟩
/-- the plan stands by the ties that it uses -/
theorem good_used (wd : Wd oo ns ts xs) (t : ToldP oo ns ts xs c rs) {ts' : List Ti} (h : ∀ z ∈ ts, usedV rs z = true → z ∈ ts') : GoodC oo ns ts' xs (rsC rs) := by
  have g := t.good
  have key : ∀ p ∈ rsC rs, ∃ r ∈ rs, ∃ z ∈ ts', goT z r = true ∧ p = (r.h, r.g) := fun p hp => by
    obtain ⟨r, hr, rfl⟩ := List.mem_map.mp hp
    obtain ⟨z, hz, hg⟩ := used_tie wd t hr
    exact ⟨r, hr, z, h z hz (List.any_eq_true.mpr ⟨r, hr, hg⟩), hg, rfl⟩
  have tie : ∀ {z : Ti} {r : Rw}, goT z r = true → (z.a = r.g ∧ z.b = r.h) ∧ z.s ≤ r.s ∧ r.u ≤ z.u := fun {z r} hg => by
    have hg : (((r.g == z.a) && (r.h == z.b)) && (decide (z.s ≤ r.s) && decide (r.u ≤ z.u))) = true := hg
    rw [Bool.and_eq_true, Bool.and_eq_true, Bool.and_eq_true, decide_eq_true_eq, decide_eq_true_eq] at hg
    exact ⟨⟨(eq_of_beq hg.1.1).symm, (eq_of_beq hg.1.2).symm⟩, hg.2⟩
  refine ⟨g.ci, fun p hp => ?_, g.ring, fun p hp => ?_, g.nx⟩
  · obtain ⟨r, hr, z, hz, hg, rfl⟩ := key p hp
    exact ⟨z, hz, (tie hg).1.2, (tie hg).1.1⟩
  · obtain ⟨r, hr, z, hz, hg, rfl⟩ := key p hp
    have ro := t.row r hr
    have e := below_eq (xs := xs) g.ci.ok.nd t.acy ro.g
    have hs := ro.s
    have hu := ro.u
    rw [e] at hs hu
    unfold timeV
    rw [Bool.not_eq_false']
    refine List.any_eq_true.mpr ⟨z, List.mem_filter.mpr ⟨hz, ?_⟩, ?_⟩
    · show ((z.a == r.g) && (z.b == r.h)) = true
      rw [(tie hg).1.1, (tie hg).1.2, beq_self_eq_true, beq_self_eq_true]
      rfl
    · unfold bearB
      rw [List.all_eq_true]
      intro x hx
      rw [Bool.and_eq_true, decide_eq_true_eq, decide_eq_true_eq]
      exact ⟨Int.le_trans (tie hg).2.1 (hs.2 x hx), Int.le_trans (hu.2 x hx) (tie hg).2.2⟩
theorem plan_used (wd : Wd oo ns ts xs) (no : oo ∉ ns) (t : ToldP oo ns ts xs c rs) {ts' : List Ti} (g : GoodC oo ns ts' xs (rsC rs)) (wd' : Wd oo ns ts' xs) : planV oo ts' xs rs = true :=
  plan_rows wd'.tr (good_B wd' no g) (good_closed wd' g) (good_fits g) (good_fitsB g (t.root wd)) rfl (by rw [rsC_keys]) t.so t.row
theorem told_many (t : ToldP oo ns ts xs c rs) : IsMany oo ns ts xs (rs.length : Int) := .inr ⟨c, t.lc, by rw [t.len]⟩
theorem less_many (wd : Wd oo ns ts xs) (t : ToldP oo ns ts xs c rs) {ts' : List Ti} {m : Int} (sub : ∀ z ∈ ts', z ∈ ts) (h : IsMany oo ns ts' xs m) : (rs.length : Int) ≤ m :=
  many_le h (told_many t) fun c g => ⟨c, good_ties (fun z hz => ⟨z, sub z hz, rfl, rfl, Int.le_refl _, Int.le_refl _⟩) g, Nat.le_refl _⟩
theorem fewer_many (wd : Wd oo ns ts xs) (t : ToldP oo ns ts xs c rs) {ts' : List Ti} {m : Int} (sub : ∀ z ∈ ts', z ∈ ts) (h : ∀ z ∈ ts, usedV rs z = true → z ∈ ts') (hm : IsMany oo ns ts' xs m) : m = (rs.length : Int) := by
  refine Int.le_antisymm ?_ (less_many wd t sub hm)
  have g := good_used wd t h
  have l : (rsC rs).length = rs.length := by unfold rsC; rw [List.length_map]
  rcases hm with ⟨_, hn⟩ | ⟨c', lc', rfl⟩
  · exact absurd g (hn _)
  · have := lc'.2 _ g
    omega
/-- wishes more, of what the plan's leaves bear -/
theorem more_many (wd : Wd oo ns ts xs) (t : ToldP oo ns ts xs c rs) {xs' : List Wi} {m : Int} (sub : ∀ x ∈ xs, x ∈ xs') (no : ∀ x ∈ xs', x.a ≠ oo) (h : ∀ x ∈ xs', x ∈ xs ∨ ∃ r ∈ rs, x.a = r.h ∧ x.s = r.s ∧ x.u = r.u) (hm : IsMany oo ns ts xs' m) : m = (rs.length : Int) := by
  have g := t.good
  have l : (rsC rs).length = rs.length := by unfold rsC; rw [List.length_map]
  have g' : GoodC oo ns ts xs' (rsC rs) := good_wish (fun x' hx' => by
    rcases h x' hx' with hx | ⟨r, hr, e1, e2, e3⟩
    · exact ⟨.inr (next_no.mp g.nx x'.a (List.mem_append_left _ (List.mem_map.mpr ⟨x', hx, rfl⟩)) (no x' hx')), ⟨x', hx, ⟨0, rfl⟩, Int.le_refl _⟩, ⟨x', hx, ⟨0, rfl⟩, Int.le_refl _⟩⟩
    · have ro := t.row r hr
      have e := below_eq (xs := xs) g.ci.ok.nd t.acy ro.g
      have hs := ro.s.1
      have hu := ro.u.1
      rw [e] at hs hu
      obtain ⟨x, hx, ex⟩ := List.mem_map.mp hs
      obtain ⟨y, hy, ey⟩ := List.mem_map.mp hu
      obtain ⟨x1, x2⟩ := List.mem_filter.mp hx
      obtain ⟨y1, y2⟩ := List.mem_filter.mp hy
      rw [e1, e2, e3]
      exact ⟨.inr (look_key ro.g), ⟨x, x1, borne_iff.mp x2, by rw [ex]; exact Int.le_refl _⟩, ⟨y, y1, borne_iff.mp y2, by rw [ey]; exact Int.le_refl _⟩⟩) g
  refine Int.le_antisymm ?_ (many_le hm (told_many t) fun c' gc => ⟨c', good_sub no (fun x hx => ⟨x, sub x hx, rfl, Int.le_refl _, Int.le_refl _⟩) gc, Nat.le_refl _⟩)
  rcases hm with ⟨_, hn⟩ | ⟨c', lc', rfl⟩
  · exact absurd g' (hn _)
  · have := lc'.2 _ g'
    omega
end

end
section
variable {P : Program} {w : World} {K : PySem.W.Frag} {mg : Str → Option Value} {base : Heap} {tabs : List Addr}
/-! ### the law: more trust, less wished -/
theorem is_many {oo : Str} {ns : List Str} {ts : List Ti} {xs : List Wi} {tD xD : D} {Q : Sl → Prop} (e1 : tD = .tup (ts.map Ti.d)) (e2 : xD = .tup (xs.map Wi.d)) (wd : Wd oo ns ts xs) (no : oo ∉ ns) (q : ∀ m, IsMany oo ns ts xs m → Q (.f (.int m))) : wMany [.tup [.str oo, tD, xD]] Q :=
  ⟨oo, ns, ts, xs, by rw [e1, e2]; rfl, wd, no, q⟩
def wideT (t : Ti) : Ti := ⟨t.a, t.b, 0, 1000000⟩
theorem wide_ok {t : Ti} (h : t.Ok) : (wideT t).Ok := ⟨h.a, h.b, h.ab, Int.le_refl _, (by decide : (0 : Int) < 1000000), Int.le_refl _⟩
theorem set_parts {xs : List Wi} {i : Nat} {x y : Wi} (h : xs[i]? = some x) : xs.take i ++ [y] ++ xs.drop (i + 1) = xs.set i y := by
  obtain ⟨hi, rfl⟩ := List.getElem?_eq_some_iff.mp h
  rw [List.set_eq_take_append_cons_drop, if_pos hi, List.append_assoc]
  rfl
theorem erase_parts {xs : List Wi} {i : Nat} : xs.take i ++ xs.drop (i + 1) = xs.eraseIdx i := (List.eraseIdx_eq_take_drop_succ ..).symm
def takeP (p : D) : D := .tup ((deedsL p).take 1)
theorem takeP_in {p : D} (h : p ∈ allDeeds) : takeP p ∈ allDeeds := by
  rcases List.mem_cons.mp h with rfl | h
  · exact List.mem_cons_self ..
  rcases List.mem_cons.mp h with rfl | h
  · exact List.mem_cons_of_mem _ (List.mem_cons_self ..)
  rw [List.mem_singleton.mp h]
  exact List.mem_cons_self ..
theorem set_same2 {α : Type} : ∀ {l : List α} {i : Nat} {x : α}, l[i]? = some x → l.set i x = l
  | [], _, _, h => by cases h
  | y :: l, 0, x, h => by cases h; rfl
  | y :: l, i + 1, x, h => by rw [List.set_cons_succ, set_same2 (l := l) (i := i) h]
def wMoreR : WUn := fun o ds Q => ∃ (n : Nat) (oo : Str) (ns : List Str) (ts : List Ti) (xs : List Wi) (many : Int), ds = [trustD oo ts xs, .int many] ∧ Un o n ∧ n + 100 ≤ 100000 ∧ Wd oo ns ts xs ∧ oo ∉ ns ∧ IsMany oo ns ts xs many ∧ ∀ o', Un o' (n + 100) → Q (.f (.bl true)) o'
theorem mono__law_more_right : MonoU2 wMoreR := fun o ds Q Q' i ⟨n, oo, ns, ts, xs, many, h1, h2, h3, h4, h5, h6, q⟩ => ⟨n, oo, ns, ts, xs, many, h1, h2, h3, h4, h5, h6, fun o' u => i _ _ (q o' u)⟩
theorem ok_more (T : Txt K mg) (c__law_draw : Cal P w K mg base 1 "_law_draw" (spW K tabs (liftU wLot))) (c__law_span : Cal P w K mg base 2 "_law_span" (spW K tabs (liftU wSpanL))) (c__law_many : Cal P w K mg base 12 "_law_many" (spW K tabs (liftF wMany)))
    (A : At K mg "_law_more_right" s__law_more_right ["pool", "trust", "many"]) : Cal P w K mg base 13 "_law_more_right" (spW K tabs (liftU wMoreR)) := by
  refine A.of fun f fd F => fx_fnU F sc__law_more_right (fun o ds Q ⟨_, _, _, _, _, _, h, _⟩ => by rw [h]; rfl) fun cdv A outer s H E TT P0 σ0 hcd hr => ⟨_, (gss_cons (gs_asg (GE.of_pure (gp_var (pv 1))) (gg_tup (n := 3) rfl (ggs_cons (pg_name (i := 3) sc__law_more_right.nd rfl (Or.inl rfl)) rfl (ggs_cons (pg_name (i := 4) sc__law_more_right.nd rfl (Or.inl rfl)) rfl (ggs_cons (pg_name (i := 5) sc__law_more_right.nd rfl (Or.inl rfl)) rfl ggs_nil)))))
      (gss_cons (gs_setE (i := 6) sc__law_more_right.nd rfl (Or.inl rfl) (ge_op opx_add (ge_lstD (gd_cons (GE.of_pure (gp_var (pv 3))) gd_nil)) (ge_frz (ge_lcR (own := [("wish", 7)]) (t := .name 7) rfl sc__law_more_right.nd (gi_tup (GE.of_pure (gp_var (pv 5)))) (blkOk_by (own := [("wish", 7)]) (N := ["pool", "trust", "many", "owner", "ties", "wishes", "names", "wish", "one", "other", "tie", "wide", "at", "actor", "deeds", "since", "until", "short"]) (sc := defScope s__law_more_right) (by decide +kernel)) (fun _ _ _ _ _ => (pg_name (i := 7) sc__law_more_right.nd rfl (Or.inl rfl))) (fun _ _ _ _ _ => (GE.of_pure (gp_ix ixx (gp_var (pv 7)) gp_int (fun _ _ => rfl)))) (by decide) (mem1 rfl) (mem1 (Nat.le_of_ble_eq_true rfl))))))
      (gss_cons (gs_setE (i := 8) sc__law_more_right.nd rfl (Or.inl rfl) (ge_callU c__law_draw hr (by first | decide | omega) rfl rfl rfl mono__law_draw (pv 0) (gd_cons (ge_cbB1 cax_len (by rfl) T.z_len (by decide +kernel) (pv 6)) gd_nil)))
      (gss_cons (gs_setE (i := 9) sc__law_more_right.nd rfl (Or.inl rfl) (ge_op opx_mod (ge_op opx_add (GE.of_pure (gp_op opx_add (gp_var (pv 8)) gp_int)) (ge_callU c__law_draw hr (by first | decide | omega) rfl rfl rfl mono__law_draw (pv 0) (gd_cons (ge_op opx_sub (ge_cbB1 cax_len (by rfl) T.z_len (by decide +kernel) (pv 6)) (GE.of_pure gp_int)) gd_nil))) (ge_cbB1 cax_len (by rfl) T.z_len (by decide +kernel) (pv 6))))
      (gss_cons (gs_setE (i := 10) sc__law_more_right.nd rfl (Or.inl rfl) (ge_op opx_add (ge_tupD (gd_cons (GE.of_pure (gp_ix ixx (gp_var (pv 6)) (gp_var (pv 8)) (fun _ _ => rfl))) (gd_cons (GE.of_pure (gp_ix ixx (gp_var (pv 6)) (gp_var (pv 9)) (fun _ _ => rfl))) gd_nil))) (ge_callU c__law_span hr (by first | decide | omega) rfl rfl rfl mono__law_span (pv 0) (gd_cons (ge_callU c__law_draw hr (by first | decide | omega) rfl rfl rfl mono__law_draw (pv 0) (gd_cons (GE.of_pure gp_int) gd_nil)) gd_nil))))
      (gss_cons (gs_if (gt_cmp opx_gt (ge_callF c__law_many hr (by first | decide | omega) rfl rfl rfl mono__law_many (gd_cons (ge_tupD (gd_cons (GE.of_pure (gp_var (pv 3))) (gd_cons (ge_op opx_add (ge_sl (GE.of_pure (gp_var (pv 4))) go_none (go_some (GE.of_pure gp_int))) (ge_tupD (gd_cons (GE.of_pure (gp_var (pv 10))) gd_nil))) (gd_cons (GE.of_pure (gp_var (pv 5))) gd_nil)))) gd_nil)) (ge_callF c__law_many hr (by first | decide | omega) rfl rfl rfl mono__law_many (gd_cons (ge_tupD (gd_cons (GE.of_pure (gp_var (pv 3))) (gd_cons (ge_sl (GE.of_pure (gp_var (pv 4))) go_none (go_some (GE.of_pure gp_int))) (gd_cons (GE.of_pure (gp_var (pv 5))) gd_nil)))) gd_nil)) (nomark _))
      (gss_one (gs_ret (GE.of_pure gp_bl)))
      gss_nil)
      (gss_cons (gs_setE (i := 11) sc__law_more_right.nd rfl (Or.inl rfl) (ge_cbT cax_tuple (by rfl) T.z_tuple (by decide +kernel) (gd_cons (ge_frz (ge_lcR (own := [("tie", 10)]) (t := .name 10) rfl sc__law_more_right.nd (gi_tup (GE.of_pure (gp_var (pv 4)))) (blkOk_by (own := [("tie", 10)]) (N := ["pool", "trust", "many", "owner", "ties", "wishes", "names", "wish", "one", "other", "tie", "wide", "at", "actor", "deeds", "since", "until", "short"]) (sc := defScope s__law_more_right) (by decide +kernel)) (fun _ _ _ _ _ => (pg_name (i := 10) sc__law_more_right.nd rfl (Or.inl rfl))) (fun _ _ _ _ _ => (ge_op opx_add (ge_sl (GE.of_pure (gp_var (pv 10))) go_none (go_some (GE.of_pure gp_int))) (ge_tupD (gd_cons (GE.of_pure gp_int) (gd_cons (GE.of_pure gp_int) gd_nil))))) (by decide) (mem1 rfl) (mem1 (Nat.le_of_ble_eq_true rfl)))) gd_nil)))
      (gss_cons (gs_if (gt_cmp opx_gt (ge_callF c__law_many hr (by first | decide | omega) rfl rfl rfl mono__law_many (gd_cons (ge_tupD (gd_cons (GE.of_pure (gp_var (pv 3))) (gd_cons (GE.of_pure (gp_var (pv 11))) (gd_cons (GE.of_pure (gp_var (pv 5))) gd_nil)))) gd_nil)) (GE.of_pure (gp_var (pv 2))) (nomark _))
      (gss_one (gs_ret (GE.of_pure gp_bl)))
      gss_nil)
      (gss_cons (gs_setE (i := 12) sc__law_more_right.nd rfl (Or.inl rfl) (ge_callU c__law_draw hr (by first | decide | omega) rfl rfl rfl mono__law_draw (pv 0) (gd_cons (ge_cbB1 cax_len (by rfl) T.z_len (by decide +kernel) (pv 5)) gd_nil)))
      (gss_cut (gs_if (GW.gt (gw_and (gt_cmp opx_gt (ge_cbB1 cax_len (by rfl) T.z_len (by decide +kernel) (pv 5)) (GE.of_pure gp_int) (nomark _)) (gw_and1 (gt_cmp opx_gt (ge_callF c__law_many hr (by first | decide | omega) rfl rfl rfl mono__law_many (gd_cons (ge_tupD (gd_cons (GE.of_pure (gp_var (pv 3))) (gd_cons (GE.of_pure (gp_var (pv 4))) (gd_cons (ge_op opx_add (ge_sl (GE.of_pure (gp_var (pv 5))) go_none (go_some (GE.of_pure (gp_var (pv 12))))) (ge_sl (GE.of_pure (gp_var (pv 5))) (go_some (GE.of_pure (gp_op opx_add (gp_var (pv 12)) gp_int))) go_none)) gd_nil)))) gd_nil)) (GE.of_pure (gp_var (pv 2))) (nomark _)))))
      (gss_one (gs_ret (GE.of_pure gp_bl)))
      gss_nil)
      (gss_cons (gs_asg (GE.of_pure (gp_ix ixx (gp_var (pv 5)) (gp_var (pv 12)) (fun _ _ => rfl))) (gg_tup (n := 4) rfl (ggs_cons (pg_name (i := 13) sc__law_more_right.nd rfl (Or.inl rfl)) rfl (ggs_cons (pg_name (i := 14) sc__law_more_right.nd rfl (Or.inl rfl)) rfl (ggs_cons (pg_name (i := 15) sc__law_more_right.nd rfl (Or.inl rfl)) rfl (ggs_cons (pg_name (i := 16) sc__law_more_right.nd rfl (Or.inl rfl)) rfl ggs_nil))))))
      (gss_cons (gs_setE (i := 17) sc__law_more_right.nd rfl (Or.inl rfl) (ge_tupD (gd_cons (GE.of_pure (gp_var (pv 13))) (gd_cons (ge_sl (GE.of_pure (gp_var (pv 14))) go_none (go_some (GE.of_pure gp_int))) (gd_cons (ge_op opx_add (GE.of_pure (gp_var (pv 15))) (ge_callU c__law_draw hr (by first | decide | omega) rfl rfl rfl mono__law_draw (pv 0) (gd_cons (GE.of_pure (gp_op opx_sub (gp_var (pv 16)) (gp_var (pv 15)))) gd_nil))) (gd_cons (GE.of_pure (gp_var (pv 16))) gd_nil))))))
      (gss_one (gs_ret (ge_cmp opx_le (ge_callF c__law_many hr (by first | decide | omega) rfl rfl rfl mono__law_many (gd_cons (ge_tupD (gd_cons (GE.of_pure (gp_var (pv 3))) (gd_cons (GE.of_pure (gp_var (pv 4))) (gd_cons (ge_op opx_add (ge_op opx_add (ge_sl (GE.of_pure (gp_var (pv 5))) go_none (go_some (GE.of_pure (gp_var (pv 12))))) (ge_tupD (gd_cons (GE.of_pure (gp_var (pv 17))) gd_nil))) (ge_sl (GE.of_pure (gp_var (pv 5))) (go_some (GE.of_pure (gp_op opx_add (gp_var (pv 12)) gp_int))) go_none)) gd_nil)))) gd_nil)) (GE.of_pure (gp_var (pv 2))) (nomark _)))))))))))))))), fun o ds Q ⟨n, oo, ns, ts, xs, many, e, u, hn, wd, no, im, q⟩ => ?_⟩
  subst e
  have tr := wd.tr
  have x6 := tr.x6
  have x1 := tr.x1
  have tl := tr.tl
  refine x_start (e := [some (.own o), some (.f (.tup [.str oo, .tup (ts.map Ti.d), .tup (xs.map Wi.d)])), some (.f (.int many)), none, none, none, none, none, none, none, none, none, none, none, none, none, none, none]) rfl ?_
  walk_at "x"
  refine ⟨by rw [List.length_map]; omega, fun i acc e => acc = ((xs.take i).map (·.a)).map D.str ∧ ∃ x7, e = [some (.own o), some (.f (.tup [.str oo, .tup (ts.map Ti.d), .tup (xs.map Wi.d)])), some (.f (.int many)), some (.f (.str oo)), some (.f (.tup (ts.map Ti.d))), some (.f (.tup (xs.map Wi.d))), none, x7, none, none, none, none, none, none, none, none, none, none], ⟨rfl, _, rfl⟩, ?_, ?_⟩
  · rintro i d acc e hd ⟨rfl, x7, rfl⟩
    rw [List.getElem?_map] at hd
    obtain ⟨x, hx, rfl⟩ := Option.map_eq_some_iff.mp hd
    refine ⟨_, rfl, ?_⟩
    dsimp only [List.map_cons, List.map_nil, wipeE, setE, Tgt.js, List.set_cons_zero, List.set_cons_succ]
    unfold Wi.d
    walk_at "x"
    exact ⟨by rw [Fx.take_snoc hx, List.map_append, List.map_append]; rfl, _, rfl⟩
  rintro acc e ⟨rfl, x7, rfl⟩
  rw [List.length_map, List.take_length]
  have nmd : (oo :: xs.map (·.a)).Nodup := List.nodup_cons.mpr ⟨fun h => by
    obtain ⟨x, hx, e⟩ := List.mem_map.mp h
    exact tr.no x hx e, tr.nd⟩
  have nml : (oo :: xs.map (·.a)).length = xs.length + 1 := by rw [List.length_cons, List.length_map]
  have nmn : ∀ y ∈ oo :: xs.map (·.a), nameB (.str y) = true ∧ y ∈ oo :: ns := fun y hy => by
    rcases List.mem_cons.mp hy with rfl | hy
    · exact ⟨tr.hoo, List.mem_cons_self ..⟩
    · obtain ⟨x, hx, rfl⟩ := List.mem_map.mp hy
      exact ⟨(tr.hxs x hx).a, wd.am.2 x hx⟩
  walk_at "x"
  rw [show [D.str oo] ++ (xs.map (·.a)).map D.str = (oo :: xs.map (·.a)).map D.str from rfl]
  generalize oo :: xs.map (·.a) = nms at nmd nml nmn
  walk_at "x"
  rw [List.length_map]
  walk_at "x"
  intro one o1 n0 n1 u1
  walk_at "x"
  rw [List.length_map]
  walk_at "x"
  intro c o2 c0 c1 u2
  walk_at "x"
  rw [List.length_map]
  walk_at "x"
  refine ix_name n0 n1 fun a ha => ?_
  walk_at "x"
  refine ix_name (Int.emod_nonneg _ (by omega)) (Int.emod_lt_of_pos _ (by omega)) fun b hb => ?_
  have nab : a ≠ b := nodup_ne nmd ha hb (turn_ne n0 n1 c0 c1).symm
  walk_at "x"
  intro way o3 w0 w1 u3
  walk_at "x"
  refine ⟨_, way, rfl, u3, by omega, fun s v o4 s0 sv vl u4 => ?_⟩
  walk_at "x"
  let tn : Ti := ⟨a, b, s, v⟩
  have ma := nmn a (List.mem_of_getElem? ha)
  have mb := nmn b (List.mem_of_getElem? hb)
  have tnok : tn.Ok := ⟨ma.1, mb.1, nab, s0, sv, vl⟩
  refine x_slT (ds' := (ts.take 19).map Ti.d) (by rw [show (19 : Int) = ((19 : Nat) : Int) from rfl, cut_any, List.map_take]) ?_
  walk_at "x"
  have sz : (4000 : Nat) ≤ sizeLine := by rw [sizeLine_eq]; omega
  have t19 : (ts.take 19).length ≤ 19 := by rw [List.length_take]; omega
  have tk : ∀ t ∈ ts.take 19, t ∈ ts := fun t h => List.mem_of_mem_take h
  refine x_addT (by rw [List.length_map]; show (ts.take 19).length + 1 ≤ sizeLine; omega) ?_
  walk_at "x"
  have snocT : ∀ {P : Ti → Prop}, (∀ t ∈ ts, P t) → P tn → ∀ t ∈ ts.take 19 ++ [tn], P t := fun h1 h2 t h => by
    rcases List.mem_append.mp h with h | h
    · exact h1 t (tk t h)
    · rw [List.mem_singleton.mp h]; exact h2
  have wd1 : Wd oo ns (ts.take 19 ++ [tn]) xs := wd_ties wd (snocT tr.hts tnok) (snocT wd.am.1 ⟨ma.2, mb.2⟩) (by rw [List.length_append, List.length_singleton]; omega)
  have wd2 : Wd oo ns (ts.take 19) xs := wd_ties wd (fun t h => tr.hts t (tk t h)) (fun t h => wd.am.1 t (tk t h)) (by omega)
  refine is_many (ts := ts.take 19 ++ [tn]) (by rw [List.map_append]; rfl) rfl wd1 no fun m1 im1 => ?_
  walk_at "x"
  refine x_slT (ds' := (ts.take 19).map Ti.d) (by rw [show (19 : Int) = ((19 : Nat) : Int) from rfl, cut_any, List.map_take]) ?_
  walk_at "x"
  refine is_many (ts := ts.take 19) rfl rfl wd2 no fun m2 im2 => ?_
  have l12 : m1 ≤ m2 := many_le im2 im1 fun c g => ⟨c, good_ties (fun t h => ⟨t, List.mem_append_left _ h, rfl, rfl, Int.le_refl _, Int.le_refl _⟩) g, Nat.le_refl _⟩
  walk_at "x"
  refine x_iteD (fun h => absurd h (by omega)) (fun _ => ?_)
  walk_at "x"
  refine ⟨by rw [List.length_map]; omega, fun i acc e => acc = ((ts.take i).map wideT).map Ti.d ∧ ∃ x10, e = [some (.own o4), some (.f (.tup [.str oo, .tup (ts.map Ti.d), .tup (xs.map Wi.d)])), some (.f (.int many)), some (.f (.str oo)), some (.f (.tup (ts.map Ti.d))), some (.f (.tup (xs.map Wi.d))), some (.f (.lst (nms.map D.str))), none, some (.f (.int one)), some (.f (.int ((one + 1 + c) % (nms.length : Int)))), x10, none, none, none, none, none, none, none], ⟨rfl, _, rfl⟩, ?_, ?_⟩
  · rintro i d acc e hd ⟨rfl, x10, rfl⟩
    rw [List.getElem?_map] at hd
    obtain ⟨t, ht, rfl⟩ := Option.map_eq_some_iff.mp hd
    refine ⟨_, rfl, ?_⟩
    dsimp only [List.map_cons, List.map_nil, wipeE, setE, Tgt.js, List.set_cons_zero, List.set_cons_succ]
    rw [show t.d = .tup [.str t.a, .str t.b, .int t.s, .int t.u] from rfl]
    walk_at "x"
    refine x_slT (ds' := [.str t.a, .str t.b]) rfl ?_
    walk_at "x"
    exact ⟨by rw [Fx.take_snoc ht, List.map_append, List.map_append]; rfl, _, rfl⟩
  rintro acc e ⟨rfl, x10, rfl⟩
  rw [List.length_map, List.take_length]
  try dsimp only [List.map_cons, List.map_nil, wipeE, List.set_cons_zero, List.set_cons_succ]
  walk_at "x"
  have wd3 : Wd oo ns (ts.map wideT) xs := wd_ties wd (fun t h => by
    obtain ⟨z, hz, rfl⟩ := List.mem_map.mp h
    exact wide_ok (tr.hts z hz)) (fun t h => by
    obtain ⟨z, hz, rfl⟩ := List.mem_map.mp h
    exact wd.am.1 z hz) (by rw [List.length_map]; exact tl)
  refine is_many (ts := ts.map wideT) rfl rfl wd3 no fun m3 im3 => ?_
  have l3 : m3 ≤ many := many_le im im3 fun c g => ⟨c, good_ties (fun t h => ⟨wideT t, List.mem_map.mpr ⟨t, h, rfl⟩, rfl, rfl, (tr.hts t h).s0, (tr.hts t h).u1⟩) g, Nat.le_refl _⟩
  walk_at "x"
  refine x_iteD (fun h => absurd h (by omega)) (fun _ => ?_)
  walk_at "x"
  rw [List.length_map]
  walk_at "x"
  intro at_ o5 a0 a1 u5
  have hat : at_.toNat < xs.length := by omega
  obtain ⟨x, hx⟩ : ∃ x, xs[at_.toNat]? = some x := ⟨_, List.getElem?_eq_getElem hat⟩
  have xok := tr.hxs x (List.mem_of_getElem? hx)
  have exl : (xs.eraseIdx at_.toNat).length = xs.length - 1 := List.length_eraseIdx_of_lt hat
  have exm : ∀ y ∈ xs.eraseIdx at_.toNat, y ∈ xs := fun y h => List.mem_of_mem_eraseIdx h
  have esl : Fx.cutD (xs.map Wi.d) none (some at_) = (xs.take at_.toNat).map Wi.d := by
    rw [cut_to a0 (by rw [List.length_map]; omega), List.map_take]
  have esr : Fx.cutD (xs.map Wi.d) (some (at_ + 1)) none = (xs.drop (at_.toNat + 1)).map Wi.d := by
    rw [cut_from (by omega) (by rw [List.length_map]; omega), List.map_drop, show (at_ + 1).toNat = at_.toNat + 1 by omega]
  walk_at "x"
  refine x_cut (fun e => ∃ (o' : O), Un o' (n + 20) ∧ e = [some (.own o'), some (.f (.tup [.str oo, .tup (ts.map Ti.d), .tup (xs.map Wi.d)])), some (.f (.int many)), some (.f (.str oo)), some (.f (.tup (ts.map Ti.d))), some (.f (.tup (xs.map Wi.d))), some (.f (.lst (nms.map D.str))), none, some (.f (.int one)), some (.f (.int ((one + 1 + c) % (nms.length : Int)))), none, some (.f (.tup ((ts.map wideT).map Ti.d))), some (.f (.int at_)), none, none, none, none, none]) ?_ ?_
  · walk_at "x"
    rw [List.length_map]
    refine x_iteD (fun h1 => ?_) (fun h1 => ?_)
    · have wd4 : Wd oo ns ts (xs.take at_.toNat ++ xs.drop (at_.toNat + 1)) := by
        rw [erase_parts]
        exact wd_wish wd (fun y h => tr.hxs y (exm y h)) (fun y h => wd.am.2 y (exm y h)) (by omega) (by omega) (tr.nd.sublist ((List.eraseIdx_sublist ..).map _)) fun y h => tr.no y (exm y h)
      walk_at "x"
      refine x_slT esl ?_
      walk_at "x"
      refine x_slT esr ?_
      walk_at "x"
      refine x_addT (by rw [List.length_map, List.length_map, List.length_take, List.length_drop]; omega) ?_
      walk_at "x"
      refine is_many (ts := ts) (xs := xs.take at_.toNat ++ xs.drop (at_.toNat + 1)) rfl (by rw [List.map_append]) wd4 no fun m4 im4 => ?_
      have l4 : m4 ≤ many := many_le im im4 fun c g => ⟨c, good_sub tr.no (fun y h => ⟨y, exm y (by rw [← erase_parts]; exact h), rfl, Int.le_refl _, Int.le_refl _⟩) g, Nat.le_refl _⟩
      walk_at "x"
      refine x_iteD (fun h => absurd h (by omega)) (fun _ => ?_)
      exact ⟨o5, u5.mono (by omega), rfl⟩
    · exact ⟨o5, u5.mono (by omega), rfl⟩
  rintro e ⟨o6, u6, rfl⟩
  have d4 := deeds4_tup (deeds_four xok.p)
  have xsu := xok.su
  have xs0 := xok.s0
  have xu1 := xok.u1
  walk_at "x"
  obtain ⟨dx, e1, e2⟩ := atI_at (ds := xs.map Wi.d) a0 (by rw [List.length_map]; omega)
  have edx : dx = x.d := by
    rw [List.getElem?_map, hx] at e2
    exact (Option.some.inj e2).symm
  subst edx
  refine x_ixT e1 ?_
  rw [show x.d = .tup [.str x.a, x.p, .int x.s, .int x.u] from rfl, d4.1]
  walk_at "x"
  refine x_slT (ds' := (deedsL x.p).take 1) (by rw [show (1 : Int) = ((1 : Nat) : Int) from rfl, cut_any]) ?_
  walk_at "x"
  intro r o7 r0 r1 u7
  walk_at "x"
  let sh : Wi := ⟨x.a, takeP x.p, x.s + r, x.u⟩
  have shok : sh.Ok := ⟨xok.a, takeP_in xok.p, (by show 0 ≤ x.s + r; omega), (by show x.s + r < x.u; omega), xu1⟩
  have sm : ∀ y ∈ xs.take at_.toNat ++ [sh] ++ xs.drop (at_.toNat + 1), y ∈ xs ∨ y = sh := fun y h => by
    rcases List.mem_append.mp h with h | h
    · rcases List.mem_append.mp h with h | h
      · exact .inl (List.mem_of_mem_take h)
      · exact .inr (List.mem_singleton.mp h)
    · exact .inl (List.mem_of_mem_drop h)
  have xm := List.mem_of_getElem? hx
  have wd5 : Wd oo ns ts (xs.take at_.toNat ++ [sh] ++ xs.drop (at_.toNat + 1)) := by
    refine wd_wish wd (fun y h => ?_) (fun y h => ?_) ?_ ?_ ?_ fun y h => ?_
    · rcases sm y h with h | rfl
      · exact tr.hxs y h
      · exact shok
    · rcases sm y h with h | rfl
      · exact wd.am.2 y h
      · exact wd.am.2 x xm
    · rw [set_parts hx, List.length_set]; exact x1
    · rw [set_parts hx, List.length_set]; exact x6
    · rw [set_parts hx, List.map_set, show sh.a = x.a from rfl]
      rw [set_same2 (l := xs.map (·.a)) (by rw [List.getElem?_map, hx]; rfl)]
      exact tr.nd
    · rcases sm y h with h | rfl
      · exact tr.no y h
      · exact tr.no x xm
  refine x_slT esl ?_
  walk_at "x"
  refine x_addT (by rw [List.length_map, List.length_take]; simp only [List.length_cons, List.length_nil]; omega) ?_
  walk_at "x"
  refine x_slT esr ?_
  walk_at "x"
  refine x_addT (by rw [List.length_append, List.length_map, List.length_map, List.length_take, List.length_drop]; simp only [List.length_cons, List.length_nil]; omega) ?_
  walk_at "x"
  refine is_many (ts := ts) (xs := xs.take at_.toNat ++ [sh] ++ xs.drop (at_.toNat + 1)) rfl (by rw [List.map_append, List.map_append]; rfl) wd5 no fun m5 im5 => ?_
  have l5 : m5 ≤ many := many_le im im5 fun c g => ⟨c, good_sub tr.no (fun y h => by
    rcases sm y h with h | rfl
    · exact ⟨y, h, rfl, Int.le_refl _, Int.le_refl _⟩
    · exact ⟨x, xm, rfl, (by show x.s ≤ x.s + r; omega), Int.le_refl _⟩) g, Nat.le_refl _⟩
  walk_at "x"
  rw [decide_eq_true l5]
  exact q o7 (u7.mono (by omega))

end
section
variable {P : Program} {w : World} {K : PySem.W.Frag} {mg : Str → Option Value} {base : Heap} {tabs : List Addr}
/-! ### the law: ties left out, wishes more -/
def wLeftR : WUn := fun o ds Q => ∃ (n : Nat) (oo : Str) (ns : List Str) (ts : List Ti) (xs : List Wi) (c : Case) (rs : List Rw), ds = [trustD oo ts xs, .tup (rs.map Rw.d)] ∧ Un o n ∧ n + 100 ≤ 100000 ∧ Wd oo ns ts xs ∧ oo ∉ ns ∧ ToldP oo ns ts xs c rs ∧ ∀ o', Un o' (n + 100) → Q (.f (.bl true)) o'
theorem mono__law_left_right : MonoU2 wLeftR := fun o ds Q Q' i ⟨n, oo, ns, ts, xs, c, rs, h1, h2, h3, h4, h5, h6, q⟩ => ⟨n, oo, ns, ts, xs, c, rs, h1, h2, h3, h4, h5, h6, fun o' u => i _ _ (q o' u)⟩
theorem ti_eq {a b : Ti} : eqB a.d b.d = true ↔ a = b := by
  obtain ⟨a1, a2, a3, a4⟩ := a
  obtain ⟨b1, b2, b3, b4⟩ := b
  show PyData.eqv (.tuple [.str a1, .str a2, .int a3, .int a4]) (.tuple [.str b1, .str b2, .int b3, .int b4]) = true ↔ _
  simp [PyData.eqv, PyData.eqvAll]
theorem ti_mem {l : List Ti} {t : Ti} : memB (l.map Ti.d) t.d = true ↔ t ∈ l := by
  induction l with
  | nil => exact ⟨nofun, nofun⟩
  | cons a l ih =>
    show (PyData.eqv a.d.py t.d.py || memB (l.map Ti.d) t.d) = true ↔ _
    rw [Bool.or_eq_true, ih, List.mem_cons]
    exact ⟨fun h => h.elim (fun h => .inl (ti_eq.mp h).symm) .inr, fun h => h.elim (fun h => .inl (ti_eq.mpr h.symm)) .inr⟩
theorem ti_fit {t : Ti} (h : t.Ok) : Fit 2 t.d := by
  refine fit_tup (n := 1) fun y hy => ?_
  simp only [List.mem_cons, List.not_mem_nil, or_false] at hy
  rcases hy with rfl | rfl | rfl | rfl
  · exact fit_str (name_cp h.a)
  · exact fit_str (name_cp h.b)
  · exact fit_int
  · exact fit_int
theorem ti_okPy {t : Ti} (h : t.Ok) : okPy t.d = true := (ti_fit h).ok (by decide)
noncomputable def inB (l : List Ti) (t : Ti) : Bool := memB (l.map Ti.d) t.d
theorem not_in {l : List Ti} {t : Ti} : (!inB l t) = true ↔ t ∉ l := by
  unfold inB
  rw [Bool.not_eq_true', ← Bool.not_eq_true, ti_mem]
/-- a leave of the plan as a wish -/
def rowW (r : Rw) : Wi := ⟨r.h, r.p, r.s, r.u⟩
theorem row_ok {oo : Str} {ns : List Str} {ts : List Ti} {xs : List Wi} {c : Case} {rs : List Rw} (wd : Wd oo ns ts xs) (no : oo ∉ ns) (t : ToldP oo ns ts xs c rs) {r : Rw} (hr : r ∈ rs) : (rowW r).Ok := by
  have cb := good_B wd no t.good
  have ro := t.row r hr
  have fb := good_fitsB t.good (t.root wd)
  have hm := look_mem ro.g
  have bo : ∀ x ∈ below xs (rsC rs) r.h, x.Ok := fun x hx => wd.tr.hxs x (List.mem_filter.mp hx).1
  obtain ⟨x, hx, ex⟩ := List.mem_map.mp ro.s.1
  obtain ⟨y, hy, ey⟩ := List.mem_map.mp ro.u.1
  have ox := bo x hx
  have oy := bo y hy
  have l1 := ro.u.2 x hx
  have h1 := ox.s0
  have h2 := ox.su
  have h6 := oy.u1
  refine ⟨cb.a _ hm, ?_, (by show 0 ≤ r.s; omega), (by show r.s < r.u; omega), (by show r.u ≤ 1000000; omega)⟩
  show r.p ∈ allDeeds
  rw [ro.p]
  exact dsOf_ne bo (fb _ _ ro.g)
theorem ok_left (T : Txt K mg) (c__law_draw : Cal P w K mg base 1 "_law_draw" (spW K tabs (liftU wLot))) (c__law_used : Cal P w K mg base 1 "_law_used" (spW K tabs (liftF wUsed))) (c__law_many : Cal P w K mg base 12 "_law_many" (spW K tabs (liftF wMany))) (c_is_plan : Cal P w K mg base 7 "is_plan" (spW K tabs (liftF wPlan)))
    (A : At K mg "_law_left_right" s__law_left_right ["pool", "trust", "rows"]) : Cal P w K mg base 13 "_law_left_right" (spW K tabs (liftU wLeftR)) := by
  refine A.of fun f fd F => fx_fnU F sc__law_left_right (fun o ds Q ⟨_, _, _, _, _, _, _, h, _⟩ => by rw [h]; rfl) fun cdv A outer s H E TT P0 σ0 hcd hr => ⟨_, (gss_cons (gs_asg (GE.of_pure (gp_var (pv 1))) (gg_tup (n := 3) rfl (ggs_cons (pg_name (i := 3) sc__law_left_right.nd rfl (Or.inl rfl)) rfl (ggs_cons (pg_name (i := 4) sc__law_left_right.nd rfl (Or.inl rfl)) rfl (ggs_cons (pg_name (i := 5) sc__law_left_right.nd rfl (Or.inl rfl)) rfl ggs_nil)))))
      (gss_cons (gs_for PassesOwn.never rfl (gi_r1 rfl T.z_range (GD.ga (gd_cons (GE.of_pure gp_int) gd_nil))) (gg_name (pg_name (i := 6) sc__law_left_right.nd rfl (Or.inl rfl)) rfl)
      (gss_cons (gs_setE (i := 7) sc__law_left_right.nd rfl (Or.inr rfl) (ge_frz (ge_lcR1 (own := [("tie", 8)]) (t := .name 8) rfl sc__law_left_right.nd (gi_tup (GE.of_pure (gp_var (pv 4)))) (blkOk_by (own := [("tie", 8)]) (N := ["pool", "trust", "rows", "owner", "ties", "wishes", "way", "spare", "tie", "fewer", "row", "less", "actors", "wish", "more"]) (sc := defScope s__law_left_right) (by decide +kernel)) (fun _ _ _ _ _ => (pg_name (i := 8) sc__law_left_right.nd rfl (Or.inl rfl))) (fun _ _ _ _ _ => (gt_not (gt_tru (ge_callF c__law_used hr (by first | decide | omega) rfl rfl rfl mono__law_used (gd_cons (GE.of_pure (gp_var (pv 2))) (gd_cons (GE.of_pure (gp_var (pv 8))) gd_nil)))))) (fun _ _ _ _ _ => (GE.of_pure (gp_var (pv 8)))) (by decide) (mem1 rfl) (mem1 (Nat.le_of_ble_eq_true rfl)))))
      (gss_cut (gs_if (GW.gt (gw_and (gt_cmpP (opx_eq hr.units) (gp_var (pv 6)) gp_int (nomark _)) (gw_and1 (gt_cmp (opx_ne hr.units) (GE.of_pure (gp_var (pv 7))) (ge_lstD gd_nil) (nomark _)))))
      (gss_one (gs_setE (i := 7) sc__law_left_right.nd rfl (Or.inr rfl) (ge_lstD (gd_cons (ge_ix ixx (GE.of_pure (gp_var (pv 7))) (ge_callU c__law_draw hr (by first | decide | omega) rfl rfl rfl mono__law_draw (pv 0) (gd_cons (ge_cbB1 cax_len (by rfl) T.z_len (by decide +kernel) (pv 7)) gd_nil)) (fun _ _ => rfl)) gd_nil))))
      gss_nil)
      (gss_cons (gs_setE (i := 9) sc__law_left_right.nd rfl (Or.inl rfl) (ge_tupD (gd_cons (GE.of_pure (gp_var (pv 3))) (gd_cons (ge_cbT cax_tuple (by rfl) T.z_tuple (by decide +kernel) (gd_cons (ge_frz (ge_lcR1 (own := [("tie", 8)]) (t := .name 8) rfl sc__law_left_right.nd (gi_tup (GE.of_pure (gp_var (pv 4)))) (blkOk_by (own := [("tie", 8)]) (N := ["pool", "trust", "rows", "owner", "ties", "wishes", "way", "spare", "tie", "fewer", "row", "less", "actors", "wish", "more"]) (sc := defScope s__law_left_right) (by decide +kernel)) (fun _ _ _ _ _ => (pg_name (i := 8) sc__law_left_right.nd rfl (Or.inl rfl))) (fun _ _ _ _ _ => (gt_cmpP (opx_nin hr.u65) (gp_var (pv 8)) (gp_var (pv 7)) (by rfl))) (fun _ _ _ _ _ => (GE.of_pure (gp_var (pv 8)))) (by decide) (mem1 rfl) (mem1 (Nat.le_of_ble_eq_true rfl)))) gd_nil)) (gd_cons (GE.of_pure (gp_var (pv 5))) gd_nil)))))
      (gss_one (gs_if (GW.gt (gw_or (gt_cmp (opx_ne hr.units) (ge_callF c__law_many hr (by first | decide | omega) rfl rfl rfl mono__law_many (gd_cons (GE.of_pure (gp_var (pv 9))) gd_nil)) (ge_cbB1 cax_len (by rfl) T.z_len (by decide +kernel) (pv 2)) (nomark _)) (gw_or1 (gt_cmp opx_notB (ge_callF c_is_plan hr (by first | decide | omega) rfl rfl rfl mono_is_plan (gd_cons (GE.of_pure (gp_var (pv 9))) (gd_cons (GE.of_pure (gp_var (pv 2))) gd_nil))) (GE.of_pure gp_bl) (nomark _)))))
      (gss_one (gs_ret (GE.of_pure gp_bl)))
      gss_nil))))))
      (gss_cons (gs_setE (i := 10) sc__law_left_right.nd rfl (Or.inr rfl) (ge_ix ixx (GE.of_pure (gp_var (pv 2))) (ge_callU c__law_draw hr (by first | decide | omega) rfl rfl rfl mono__law_draw (pv 0) (gd_cons (ge_cbB1 cax_len (by rfl) T.z_len (by decide +kernel) (pv 2)) gd_nil)) (fun _ _ => rfl)))
      (gss_cons (gs_setE (i := 11) sc__law_left_right.nd rfl (Or.inl rfl) (ge_cbT cax_tuple (by rfl) T.z_tuple (by decide +kernel) (gd_cons (ge_frz (ge_lcR1 (own := [("tie", 8)]) (t := .name 8) rfl sc__law_left_right.nd (gi_tup (GE.of_pure (gp_var (pv 4)))) (blkOk_by (own := [("tie", 8)]) (N := ["pool", "trust", "rows", "owner", "ties", "wishes", "way", "spare", "tie", "fewer", "row", "less", "actors", "wish", "more"]) (sc := defScope s__law_left_right) (by decide +kernel)) (fun _ _ _ _ _ => (pg_name (i := 8) sc__law_left_right.nd rfl (Or.inl rfl))) (fun _ _ _ _ _ => (gt_not (gt_tru (ge_callF c__law_used hr (by first | decide | omega) rfl rfl rfl mono__law_used (gd_cons (ge_tupD (gd_cons (GE.of_pure (gp_var (pv 10))) gd_nil)) (gd_cons (GE.of_pure (gp_var (pv 8))) gd_nil)))))) (fun _ _ _ _ _ => (GE.of_pure (gp_var (pv 8)))) (by decide) (mem1 rfl) (mem1 (Nat.le_of_ble_eq_true rfl)))) gd_nil)))
      (gss_cons (gs_if (gt_cmp opx_lt (ge_callF c__law_many hr (by first | decide | omega) rfl rfl rfl mono__law_many (gd_cons (ge_tupD (gd_cons (GE.of_pure (gp_var (pv 3))) (gd_cons (GE.of_pure (gp_var (pv 11))) (gd_cons (GE.of_pure (gp_var (pv 5))) gd_nil)))) gd_nil)) (ge_cbB1 cax_len (by rfl) T.z_len (by decide +kernel) (pv 2)) (nomark _))
      (gss_one (gs_ret (GE.of_pure gp_bl)))
      gss_nil)
      (gss_cons (gs_setE (i := 12) sc__law_left_right.nd rfl (Or.inr rfl) (ge_frz (ge_lcR (own := [("wish", 13)]) (t := .name 13) rfl sc__law_left_right.nd (gi_tup (GE.of_pure (gp_var (pv 5)))) (blkOk_by (own := [("wish", 13)]) (N := ["pool", "trust", "rows", "owner", "ties", "wishes", "way", "spare", "tie", "fewer", "row", "less", "actors", "wish", "more"]) (sc := defScope s__law_left_right) (by decide +kernel)) (fun _ _ _ _ _ => (pg_name (i := 13) sc__law_left_right.nd rfl (Or.inl rfl))) (fun _ _ _ _ _ => (GE.of_pure (gp_ix ixx (gp_var (pv 13)) gp_int (fun _ _ => rfl)))) (by decide) (mem1 rfl) (mem1 (Nat.le_of_ble_eq_true rfl)))))
      (gss_cons (gs_setE (i := 14) sc__law_left_right.nd rfl (Or.inl rfl) (ge_cbT cax_tuple (by rfl) T.z_tuple (by decide +kernel) (gd_cons (ge_frz (ge_lcR1 (own := [("row", 10)]) (t := .name 10) rfl sc__law_left_right.nd (gi_tup (GE.of_pure (gp_var (pv 2)))) (blkOk_by (own := [("row", 10)]) (N := ["pool", "trust", "rows", "owner", "ties", "wishes", "way", "spare", "tie", "fewer", "row", "less", "actors", "wish", "more"]) (sc := defScope s__law_left_right) (by decide +kernel)) (fun _ _ _ _ _ => (pg_name (i := 10) sc__law_left_right.nd rfl (Or.inl rfl))) (fun _ _ _ _ _ => (gt_cmpP (opx_nin hr.u65) (gp_ix ixx (gp_var (pv 10)) gp_int (fun _ _ => rfl)) (gp_var (pv 12)) (by rfl))) (fun _ _ _ _ _ => (ge_sl (GE.of_pure (gp_var (pv 10))) (go_some (GE.of_pure gp_int)) (go_some (GE.of_pure gp_int)))) (by decide) (mem1 rfl) (mem1 (Nat.le_of_ble_eq_true rfl)))) gd_nil)))
      (gss_one (gs_ret (ge_cmp (opx_eq hr.units) (ge_callF c__law_many hr (by first | decide | omega) rfl rfl rfl mono__law_many (gd_cons (ge_tupD (gd_cons (GE.of_pure (gp_var (pv 3))) (gd_cons (GE.of_pure (gp_var (pv 4))) (gd_cons (ge_sl (GE.of_pure (gp_op opx_add (gp_var (pv 5)) (gp_var (pv 14)))) go_none (go_some (GE.of_pure gp_int))) gd_nil)))) gd_nil)) (ge_cbB1 cax_len (by rfl) T.z_len (by decide +kernel) (pv 2)) (nomark _))))))))))), fun o ds Q ⟨n, oo, ns, ts, xs, c, rs, e, u, hn, wd, no, t, q⟩ => ?_⟩
  subst e
  have tr := wd.tr
  have x6_ := tr.x6
  have x1 := tr.x1
  have tl := tr.tl
  have hW := t.W wd no
  have r6 : rs.length ≤ 6 := by rw [t.len]; exact good_len t.lc.1
  have r1 : 1 ≤ rs.length := by rw [t.len]; exact good_pos tr t.lc.1
  refine x_start (e := [some (.own o), some (.f (.tup [.str oo, .tup (ts.map Ti.d), .tup (xs.map Wi.d)])), some (.f (.tup (rs.map Rw.d))), none, none, none, none, none, none, none, none, none, none, none, none]) rfl ?_
  walk_at "x"
  refine ⟨fun i e => ∃ (o' : O) (x6 x7 x8 x9 : Option Sl), Un o' (n + i) ∧ e = [some (.own o'), some (.f (.tup [.str oo, .tup (ts.map Ti.d), .tup (xs.map Wi.d)])), some (.f (.tup (rs.map Rw.d))), some (.f (.str oo)), some (.f (.tup (ts.map Ti.d))), some (.f (.tup (xs.map Wi.d))), x6, x7, x8, x9, none, none, none, none, none], ⟨o, _, _, _, _, u, rfl⟩, ?_, ?_⟩
  · rintro i d e hd ⟨o1, x6, x7, x8, x9, u1, rfl⟩
    obtain ⟨hi, rfl⟩ := rng_at hd
    have hi : i < 2 := hi
    walk_at "x"
    refine ⟨by rw [List.length_map]; omega, fun j acc e => acc = ((ts.take j).filter (fun z => !usedV rs z)).map Ti.d ∧ ∃ x8, e = [some (.own o1), some (.f (.tup [.str oo, .tup (ts.map Ti.d), .tup (xs.map Wi.d)])), some (.f (.tup (rs.map Rw.d))), some (.f (.str oo)), some (.f (.tup (ts.map Ti.d))), some (.f (.tup (xs.map Wi.d))), some (.f (.int (i : Nat))), x7, x8, x9, none, none, none, none, none], ⟨rfl, _, rfl⟩, ?_, ?_⟩
    · rintro j d acc e hd ⟨rfl, x8, rfl⟩
      rw [List.getElem?_map] at hd
      obtain ⟨z, hz, rfl⟩ := Option.map_eq_some_iff.mp hd
      have zok := tr.hts z (List.mem_of_getElem? hz)
      refine ⟨_, rfl, ?_⟩
      dsimp only [List.map_cons, List.map_nil, wipeE, setE, Tgt.js, List.set_cons_zero, List.set_cons_succ]
      walk_at "x"
      refine ⟨rs, z, rfl, hW, by omega, zok, ?_⟩
      cases hu : usedV rs z with
      | true =>
        walk_at "x"
        exact ⟨by rw [Fx.take_snoc hz, List.filter_append, List.filter_cons_of_neg (by rw [hu]; decide), List.filter_nil, List.append_nil], _, rfl⟩
      | false =>
        walk_at "x"
        exact ⟨by rw [Fx.take_snoc hz, List.filter_append, List.filter_cons_of_pos (by rw [hu]; rfl), List.filter_nil, List.map_append]; rfl, _, rfl⟩
    rintro acc e ⟨rfl, x8, rfl⟩
    rw [List.length_map, List.take_length]
    try dsimp only [List.map_cons, List.map_nil, wipeE, List.set_cons_zero, List.set_cons_succ]
    have unu : ∀ z ∈ ts.filter (fun z => !usedV rs z), z.Ok ∧ usedV rs z = false := fun z h => by
      obtain ⟨h1, h2⟩ := List.mem_filter.mp h
      exact ⟨tr.hts z h1, by simpa using h2⟩
    have ul : (ts.filter (fun z => !usedV rs z)).length ≤ 20 := Nat.le_trans (List.length_filter_le ..) tl
    generalize ts.filter (fun z => !usedV rs z) = sp at unu ul
    refine ⟨_, _, rfl, rfl, nofun, Nat.le_of_ble_eq_true rfl, ?_⟩
    refine x_cut (fun e => ∃ (o' : O) (sp' : List Ti) (x8 : Option Sl), Un o' (n + i + 1) ∧ (∀ z ∈ sp', z.Ok ∧ usedV rs z = false) ∧ sp'.length ≤ 20 ∧ e = [some (.own o'), some (.f (.tup [.str oo, .tup (ts.map Ti.d), .tup (xs.map Wi.d)])), some (.f (.tup (rs.map Rw.d))), some (.f (.str oo)), some (.f (.tup (ts.map Ti.d))), some (.f (.tup (xs.map Wi.d))), some (.f (.int (i : Nat))), some (.f (.lst (sp'.map Ti.d))), x8, x9, none, none, none, none, none]) ?_ ?_
    · walk_at "x"
      have stay : ∃ (o' : O) (sp' : List Ti) (x8 : Option Sl), Un o' (n + i + 1) ∧ (∀ z ∈ sp', z.Ok ∧ usedV rs z = false) ∧ sp'.length ≤ 20 ∧ ([some (.own o1), some (.f (.tup [.str oo, .tup (ts.map Ti.d), .tup (xs.map Wi.d)])), some (.f (.tup (rs.map Rw.d))), some (.f (.str oo)), some (.f (.tup (ts.map Ti.d))), some (.f (.tup (xs.map Wi.d))), some (.f (.int (i : Nat))), some (.f (.lst (sp.map Ti.d))), none, x9, none, none, none, none, none] : Fx.Env) = [some (.own o'), some (.f (.tup [.str oo, .tup (ts.map Ti.d), .tup (xs.map Wi.d)])), some (.f (.tup (rs.map Rw.d))), some (.f (.str oo)), some (.f (.tup (ts.map Ti.d))), some (.f (.tup (xs.map Wi.d))), some (.f (.int (i : Nat))), some (.f (.lst (sp'.map Ti.d))), x8, x9, none, none, none, none, none] := ⟨o1, sp, _, u1.mono (by omega), unu, ul, rfl⟩
      refine x_iteD (fun h1 => ?_) (fun h1 => ?_)
      · walk_at "x"
        refine x_neD ((fit_lst (n := 2) fun y hy => by
          obtain ⟨z, hz, rfl⟩ := List.mem_map.mp hy
          exact ti_fit (unu z hz).1).ok (by decide)) (by decide +kernel) ?_
        rw [ne_nilD]
        cases hem : (sp.map Ti.d).isEmpty with
        | true =>
          walk_at "x"
          exact stay
        | false =>
          have lpos : 0 < sp.length := by
            cases sp with
            | nil => cases hem
            | cons z sp => exact Nat.succ_pos _
          walk_at "x"
          rw [List.length_map]
          walk_at "x"
          intro k o3 k0 k1 u3
          walk_at "x"
          obtain ⟨dz, e1, e2⟩ := atI_at (ds := sp.map Ti.d) k0 (by rw [List.length_map]; omega)
          rw [List.getElem?_map] at e2
          obtain ⟨z, hz, rfl⟩ := Option.map_eq_some_iff.mp e2
          refine x_ixL e1 ?_
          walk_at "x"
          refine ⟨o3, [z], _, u3.mono (by omega), fun y hy => ?_, by rw [List.length_singleton]; omega, rfl⟩
          rw [List.mem_singleton.mp hy]
          exact unu z (List.mem_of_getElem? hz)
      · exact stay
    rintro e ⟨o2, sp', x8, u2, sok, sl, rfl⟩
    have spok : okPy (.lst (sp'.map Ti.d)) = true := (fit_lst (n := 2) fun y hy => by
      obtain ⟨z, hz, rfl⟩ := List.mem_map.mp hy
      exact ti_fit (sok z hz).1).ok (by decide)
    walk_at "x"
    refine ⟨by rw [List.length_map]; omega, fun j acc e => acc = ((ts.take j).filter (fun z => !inB sp' z)).map Ti.d ∧ ∃ x8, e = [some (.own o2), some (.f (.tup [.str oo, .tup (ts.map Ti.d), .tup (xs.map Wi.d)])), some (.f (.tup (rs.map Rw.d))), some (.f (.str oo)), some (.f (.tup (ts.map Ti.d))), some (.f (.tup (xs.map Wi.d))), some (.f (.int (i : Nat))), some (.f (.lst (sp'.map Ti.d))), x8, x9, none, none, none, none, none], ⟨rfl, _, rfl⟩, ?_, ?_⟩
    · rintro j d acc e hd ⟨rfl, x8, rfl⟩
      rw [List.getElem?_map] at hd
      obtain ⟨z, hz, rfl⟩ := Option.map_eq_some_iff.mp hd
      have zok := tr.hts z (List.mem_of_getElem? hz)
      refine ⟨_, rfl, ?_⟩
      dsimp only [List.map_cons, List.map_nil, wipeE, setE, Tgt.js, List.set_cons_zero, List.set_cons_succ]
      walk_at "x"
      refine x_ninL (ti_okPy zok) spok ?_
      rw [show memB (sp'.map Ti.d) z.d = inB sp' z from rfl]
      cases hu : inB sp' z with
      | true =>
        walk_at "x"
        exact ⟨by rw [Fx.take_snoc hz, List.filter_append, List.filter_cons_of_neg (by rw [hu]; decide), List.filter_nil, List.append_nil], _, rfl⟩
      | false =>
        walk_at "x"
        exact ⟨by rw [Fx.take_snoc hz, List.filter_append, List.filter_cons_of_pos (by rw [hu]; rfl), List.filter_nil, List.map_append]; rfl, _, rfl⟩
    rintro acc e ⟨rfl, x8, rfl⟩
    rw [List.length_map, List.take_length]
    try dsimp only [List.map_cons, List.map_nil, wipeE, List.set_cons_zero, List.set_cons_succ]
    have sub : ∀ z ∈ ts.filter (fun z => !inB sp' z), z ∈ ts := fun z h => (List.mem_filter.mp h).1
    have keep : ∀ z ∈ ts, usedV rs z = true → z ∈ ts.filter (fun z => !inB sp' z) := fun z hz hu => by
      refine List.mem_filter.mpr ⟨hz, not_in.mpr fun h => ?_⟩
      rw [(sok z h).2] at hu
      cases hu
    have l20 : (ts.filter (fun z => !inB sp' z)).length ≤ 20 := Nat.le_trans (List.length_filter_le ..) tl
    generalize ts.filter (fun z => !inB sp' z) = ts' at sub keep l20
    have wd' : Wd oo ns ts' xs := wd_ties wd (fun z h => tr.hts z (sub z h)) (fun z h => wd.am.1 z (sub z h)) l20
    walk_at "x"
    refine is_many (ts := ts') rfl rfl wd' no fun m im => ?_
    have em := fewer_many wd t sub keep im
    subst em
    walk_at "x"
    rw [List.length_map]
    refine x_iteD (fun _ => ?_) (fun h => absurd rfl h)
    walk_at "x"
    refine ⟨oo, ts', xs, rs, rfl, wd'.tr, hW, by omega, ?_⟩
    rw [plan_used wd no t (good_used wd t keep) wd']
    walk_at "x"
    exact ⟨o2, _, _, _, _, u2.mono (by omega), rfl⟩
  rintro e ⟨o1, x6, x7, x8, x9, u1, rfl⟩
  rw [List.length_map, List.length_range] at u1
  have u1 : Un o1 (n + 2) := u1
  walk_at "x"
  rw [List.length_map]
  walk_at "x"
  intro k o2 k0 k1 u2
  walk_at "x"
  obtain ⟨dr, e1, e2⟩ := atI_at (ds := rs.map Rw.d) k0 (by rw [List.length_map]; omega)
  rw [List.getElem?_map] at e2
  obtain ⟨r, hr0, rfl⟩ := Option.map_eq_some_iff.mp e2
  have rm := List.mem_of_getElem? hr0
  refine ⟨_, e1, ?_⟩
  walk_at "x"
  refine ⟨by rw [List.length_map]; omega, fun j acc e => acc = ((ts.take j).filter (fun z => !usedV [r] z)).map Ti.d ∧ ∃ x8, e = [some (.own o2), some (.f (.tup [.str oo, .tup (ts.map Ti.d), .tup (xs.map Wi.d)])), some (.f (.tup (rs.map Rw.d))), some (.f (.str oo)), some (.f (.tup (ts.map Ti.d))), some (.f (.tup (xs.map Wi.d))), x6, x7, x8, x9, some (.f r.d), none, none, none, none], ⟨rfl, _, rfl⟩, ?_, ?_⟩
  · rintro j d acc e hd ⟨rfl, x8, rfl⟩
    rw [List.getElem?_map] at hd
    obtain ⟨z, hz, rfl⟩ := Option.map_eq_some_iff.mp hd
    have zok := tr.hts z (List.mem_of_getElem? hz)
    refine ⟨_, rfl, ?_⟩
    dsimp only [List.map_cons, List.map_nil, wipeE, setE, Tgt.js, List.set_cons_zero, List.set_cons_succ]
    walk_at "x"
    refine ⟨[r], z, rfl, fun y hy => by rw [List.mem_singleton.mp hy]; exact hW r rm, by rw [List.length_singleton]; omega, zok, ?_⟩
    cases hu : usedV [r] z with
    | true =>
      walk_at "x"
      exact ⟨by rw [Fx.take_snoc hz, List.filter_append, List.filter_cons_of_neg (by rw [hu]; decide), List.filter_nil, List.append_nil], _, rfl⟩
    | false =>
      walk_at "x"
      exact ⟨by rw [Fx.take_snoc hz, List.filter_append, List.filter_cons_of_pos (by rw [hu]; rfl), List.filter_nil, List.map_append]; rfl, _, rfl⟩
  rintro acc e ⟨rfl, x8, rfl⟩
  rw [List.length_map, List.take_length]
  try dsimp only [List.map_cons, List.map_nil, wipeE, List.set_cons_zero, List.set_cons_succ]
  have sub : ∀ z ∈ ts.filter (fun z => !usedV [r] z), z ∈ ts := fun z h => (List.mem_filter.mp h).1
  have l20 : (ts.filter (fun z => !usedV [r] z)).length ≤ 20 := Nat.le_trans (List.length_filter_le ..) tl
  generalize ts.filter (fun z => !usedV [r] z) = ts' at sub l20
  have wd' : Wd oo ns ts' xs := wd_ties wd (fun z h => tr.hts z (sub z h)) (fun z h => wd.am.1 z (sub z h)) l20
  walk_at "x"
  refine is_many (ts := ts') rfl rfl wd' no fun m im => ?_
  have lm := less_many wd t sub im
  walk_at "x"
  rw [List.length_map]
  refine x_iteD (fun h => absurd h (by omega)) (fun _ => ?_)
  walk_at "x"
  refine ⟨by rw [List.length_map]; omega, fun j acc e => acc = ((xs.take j).map (·.a)).map D.str ∧ ∃ x13, e = [some (.own o2), some (.f (.tup [.str oo, .tup (ts.map Ti.d), .tup (xs.map Wi.d)])), some (.f (.tup (rs.map Rw.d))), some (.f (.str oo)), some (.f (.tup (ts.map Ti.d))), some (.f (.tup (xs.map Wi.d))), x6, x7, none, x9, some (.f r.d), some (.f (.tup (ts'.map Ti.d))), none, x13, none], ⟨rfl, _, rfl⟩, ?_, ?_⟩
  · rintro i d acc e hd ⟨rfl, x13, rfl⟩
    rw [List.getElem?_map] at hd
    obtain ⟨x, hx, rfl⟩ := Option.map_eq_some_iff.mp hd
    refine ⟨_, rfl, ?_⟩
    dsimp only [List.map_cons, List.map_nil, wipeE, setE, Tgt.js, List.set_cons_zero, List.set_cons_succ]
    unfold Wi.d
    walk_at "x"
    exact ⟨by rw [Fx.take_snoc hx, List.map_append, List.map_append]; rfl, _, rfl⟩
  rintro acc e ⟨rfl, x13, rfl⟩
  rw [List.length_map, List.take_length]
  try dsimp only [List.map_cons, List.map_nil, wipeE, List.set_cons_zero, List.set_cons_succ]
  have wok : ∀ y ∈ xs.map (·.a), PyData.strOk y = true := fun y hy => by
    obtain ⟨x, hx, rfl⟩ := List.mem_map.mp hy
    exact name_cp (tr.hxs x hx).a
  walk_at "x"
  refine ⟨by rw [List.length_map]; omega, fun j acc e => acc = (((rs.take j).filter (fun r => !(xs.map (·.a)).contains r.h)).map rowW).map Wi.d ∧ ∃ x10, e = [some (.own o2), some (.f (.tup [.str oo, .tup (ts.map Ti.d), .tup (xs.map Wi.d)])), some (.f (.tup (rs.map Rw.d))), some (.f (.str oo)), some (.f (.tup (ts.map Ti.d))), some (.f (.tup (xs.map Wi.d))), x6, x7, none, x9, x10, some (.f (.tup (ts'.map Ti.d))), some (.f (.lst ((xs.map (·.a)).map D.str))), none, none], ⟨rfl, _, rfl⟩, ?_, ?_⟩
  · rintro j d acc e hd ⟨rfl, x10, rfl⟩
    rw [List.getElem?_map] at hd
    obtain ⟨r3, hr3, rfl⟩ := Option.map_eq_some_iff.mp hd
    have rw3 := hW r3 (List.mem_of_getElem? hr3)
    refine ⟨_, rfl, ?_⟩
    dsimp only [List.map_cons, List.map_nil, wipeE, setE, Tgt.js, List.set_cons_zero, List.set_cons_succ]
    rw [show r3.d = .tup [.str r3.g, .str r3.h, r3.p, .int r3.s, .int r3.u, .int r3.k] from rfl]
    walk_at "x"
    refine x_ninL (okPy_str rw3.h) (okPy_strs wok) ?_
    rw [mem_strs]
    cases hc : (xs.map (·.a)).contains r3.h with
    | true =>
      walk_at "x"
      exact ⟨by rw [Fx.take_snoc hr3, List.filter_append, List.filter_cons_of_neg (by rw [hc]; decide), List.filter_nil, List.append_nil], _, rfl⟩
    | false =>
      walk_at "x"
      refine x_slT (ds' := [.str r3.h, r3.p, .int r3.s, .int r3.u]) rfl ?_
      exact ⟨_, rfl, by rw [Fx.take_snoc hr3, List.filter_append, List.filter_cons_of_pos (by rw [hc]; rfl), List.filter_nil, List.map_append, List.map_append]; rfl, _, rfl⟩
  rintro acc e ⟨rfl, x10, rfl⟩
  rw [List.length_map, List.take_length]
  try dsimp only [List.map_cons, List.map_nil, wipeE, List.set_cons_zero, List.set_cons_succ]
  have fm : ∀ r ∈ rs.filter (fun r => !(xs.map (·.a)).contains r.h), r ∈ rs ∧ r.h ∉ xs.map (·.a) := fun r h => by
    obtain ⟨h1, h2⟩ := List.mem_filter.mp h
    exact ⟨h1, by simpa using h2⟩
  have fnd : ((rs.filter (fun r => !(xs.map (·.a)).contains r.h)).map (·.h)).Nodup := by
    have : (rs.map (·.h)).Nodup := t.pm.nodup_iff.mpr t.lc.1.ci.ok.nd
    exact this.sublist (List.filter_sublist.map _)
  have fl : (rs.filter (fun r => !(xs.map (·.a)).contains r.h)).length ≤ 6 := Nat.le_trans (List.length_filter_le ..) r6
  generalize rs.filter (fun r => !(xs.map (·.a)).contains r.h) = fs at fm fnd fl
  walk_at "x"
  refine x_slT (ds' := ((xs ++ fs.map rowW).take 6).map Wi.d) (by rw [show (6 : Int) = ((6 : Nat) : Int) from rfl, cut_any, ← List.map_append, List.map_take]) ?_
  walk_at "x"
  have ym : ∀ y ∈ (xs ++ fs.map rowW).take 6, y ∈ xs ∨ ∃ r ∈ fs, y = rowW r := fun y h => by
    rcases List.mem_append.mp (List.mem_of_mem_take h) with h | h
    · exact .inl h
    · obtain ⟨r, hr, rfl⟩ := List.mem_map.mp h
      exact .inr ⟨r, hr, rfl⟩
  have cb := good_B wd no t.good
  have ne : ∀ y ∈ (xs ++ fs.map rowW).take 6, y.a ≠ oo := fun y h => by
    rcases ym y h with h | ⟨r, hr, rfl⟩
    · exact tr.no y h
    · exact cb.no _ (look_mem (t.row r (fm r hr).1).g)
  have wd6 : Wd oo ns ts ((xs ++ fs.map rowW).take 6) := by
    refine wd_wish wd (fun y h => ?_) (fun y h => ?_) ?_ ?_ ?_ ne
    · rcases ym y h with h | ⟨r, hr, rfl⟩
      · exact tr.hxs y h
      · exact row_ok wd no t (fm r hr).1
    · rcases ym y h with h | ⟨r, hr, rfl⟩
      · exact wd.am.2 y h
      · exact List.mem_cons_of_mem _ (t.good.ci.k _ (look_mem (t.row r (fm r hr).1).g))
    · rw [List.length_take, List.length_append]; omega
    · rw [List.length_take]; omega
    · have nd : ((xs ++ fs.map rowW).map (·.a)).Nodup := by
        rw [List.map_append, List.map_map, show ((fun x : Wi => x.a) ∘ rowW) = fun r : Rw => r.h from rfl]
        refine List.nodup_append.mpr ⟨tr.nd, fnd, fun a ha b hb e => ?_⟩
        obtain ⟨r, hr, rfl⟩ := List.mem_map.mp hb
        exact (fm r hr).2 (by rw [← show a = r.h from e]; exact ha)
      exact nd.sublist ((List.take_sublist ..).map _)
  refine is_many (ts := ts) (xs := (xs ++ fs.map rowW).take 6) rfl rfl wd6 no fun m6 im6 => ?_
  have em := more_many wd t (fun x hx => by rw [List.take_append]; exact List.mem_append_left _ (by rw [List.take_of_length_le x6_]; exact hx)) ne (fun y h => by
    rcases ym y h with h | ⟨r, hr, rfl⟩
    · exact .inl h
    · exact .inr ⟨r, (fm r hr).1, rfl, rfl, rfl⟩) im6
  subst em
  walk_at "x"
  rw [List.length_map, decide_eq_true rfl]
  exact q o2 (u2.mono (by omega))

end
section
variable {P : Program} {w : World} {K : PySem.W.Frag} {mg : Str → Option Value} {base : Heap} {tabs : List Addr}
/-! ### the law -/
theorem fn_law (T : Txt K mg) (c_least_plan : Cal P w K mg base 11 "least_plan" (spW K tabs (liftF wLeast))) (c__law_many : Cal P w K mg base 12 "_law_many" (spW K tabs (liftF wMany)))
    (c__law_cell_at : Cal P w K mg base 1 "_law_cell_at" (spW K tabs (liftF wCellAt))) (c__law_pool : Cal P w K mg base 1 "_law_pool" (spW K tabs (liftF wUrn))) (c__law_trust : Cal P w K mg base 3 "_law_trust" (spW K tabs (liftU wTrustG)))
    (c__law_more_right : Cal P w K mg base 13 "_law_more_right" (spW K tabs (liftU wMoreR))) (c__law_left_right : Cal P w K mg base 13 "_law_left_right" (spW K tabs (liftU wLeftR)))
    {f : Addr} {fd : FuncData} (F : Fun K "law" "law" s_law f fd) : FnOk P w K mg base CX0 14 f fd ["script"] (spW K tabs (liftF Fx.wLaw)) := by
  refine fx_fnF F sc_law (fun ds Q ⟨ns, h, _⟩ => by rw [h]; rfl) fun cdv A outer s H E TT P0 σ0 hcd hr => ⟨_, (gss_cons (gs_for PassesOwn.never rfl (gi_r1 rfl T.z_range (GD.ga (gd_cons (ge_cbB (cax_max2 rfl) (by rfl) T.z_max (by decide +kernel) (gd_cons (GE.of_pure gp_int) (gd_cons (ge_cbB (cax_min2 rfl) (by rfl) T.z_min (by decide +kernel) (gd_cons (GE.of_pure gp_int) (gd_cons (ge_cbB1 cax_len (by rfl) T.z_len (by decide +kernel) (pv 0)) gd_nil))) gd_nil))) gd_nil))) (gg_name (pg_name (i := 1) sc_law.nd rfl (Or.inl rfl)) rfl)
      (gss_cons (gs_setE (i := 2) sc_law.nd rfl (Or.inl rfl) (ge_callF c__law_pool hr (by first | decide | omega) rfl rfl rfl mono__law_pool (gd_cons (ge_callF c__law_cell_at hr (by first | decide | omega) rfl rfl rfl mono__law_cell_at (gd_cons (GE.of_pure (gp_var (pv 0))) (gd_cons (GE.of_pure (gp_var (pv 1))) gd_nil))) (gd_cons (GE.of_pure (gp_var (pv 1))) gd_nil))))
      (gss_cons (gs_setE (i := 3) sc_law.nd rfl (Or.inl rfl) (ge_callU c__law_trust hr (by first | decide | omega) rfl rfl rfl mono__law_trust (pv 2) (gd_cons (GE.of_pure gp_int) gd_nil)))
      (gss_cons (gs_setE (i := 4) sc_law.nd rfl (Or.inl rfl) (ge_callF c_least_plan hr (by first | decide | omega) rfl rfl rfl mono_least_plan (gd_cons (GE.of_pure (gp_var (pv 3))) gd_nil)))
      (gss_cons (gs_if (gt_not (gt_tru (ge_callU c__law_more_right hr (by first | decide | omega) rfl rfl rfl mono__law_more_right (pv 2) (gd_cons (GE.of_pure (gp_var (pv 3))) (gd_cons (ge_callF c__law_many hr (by first | decide | omega) rfl rfl rfl mono__law_many (gd_cons (GE.of_pure (gp_var (pv 3))) gd_nil)) gd_nil)))))
      (gss_one (gs_ret (GE.of_pure gp_bl)))
      gss_nil)
      (gss_one (gs_if (GW.gt (gw_and (gt_cmpP (opx_eq hr.units) (gp_ix ixx (gp_var (pv 4)) gp_int (fun _ _ => rfl)) gp_str (nomark _)) (gw_and1 (gt_not (gt_tru (ge_callU c__law_left_right hr (by first | decide | omega) rfl rfl rfl mono__law_left_right (pv 2) (gd_cons (GE.of_pure (gp_var (pv 3))) (gd_cons (GE.of_pure (gp_ix ixx (gp_var (pv 4)) gp_int (fun _ _ => rfl))) gd_nil))))))))
      (gss_one (gs_ret (GE.of_pure gp_bl)))
      gss_nil)))))))
      (gss_one (gs_ret (GE.of_pure gp_bl)))), fun ds Q ⟨ns, h, hn, q⟩ => ?_⟩
  subst h
  refine x_start (e := [some (.f (.lst (ns.map D.int))), none, none, none, none]) rfl ?_
  walk_at "x"
  have hm : ∀ m : Int, (if (if m < 3 then m else 3) > 1 then (if m < 3 then m else 3) else 1) ≤ 3 := by
    intro m
    split <;> split <;> omega
  have hm := hm (ns.map D.int).length
  generalize (if (if (((ns.map D.int).length : Nat) : Int) < 3 then (((ns.map D.int).length : Nat) : Int) else 3) > 1 then (if (((ns.map D.int).length : Nat) : Int) < 3 then (((ns.map D.int).length : Nat) : Int) else 3) else 1) = many at hm
  refine ⟨fun i e => ∃ x1 x2 x3 x4, e = [some (.f (.lst (ns.map D.int))), x1, x2, x3, x4], ⟨none, none, none, none, rfl⟩, ?_, ?_⟩
  · rintro i d e hd ⟨x1, x2, x3, x4, rfl⟩
    obtain ⟨hi, rfl⟩ := rng_at hd
    walk_at "x"
    refine ⟨ns, _, rfl, hn, by omega, fun c => ?_⟩
    walk_at "x"
    refine ⟨c, _, rfl, by omega, by omega, fun o u => ?_⟩
    walk_at "x"
    refine ⟨0, 6, rfl, u, by omega, by omega, by omega, fun oo ts xs nm o1 tr am nl nmd no u1 => ?_⟩
    have wd : Wd oo nm ts xs := ⟨tr, am, nl⟩
    rw [show trustD oo ts xs = .tup [.str oo, .tup (ts.map Ti.d), .tup (xs.map Wi.d)] from rfl]
    walk_at "x"
    refine ⟨oo, nm, ts, xs, rfl, wd, fun hno => ?_, fun c rs h1 h2 h3 h4 h5 => ?_⟩
    · walk_at "x"
      refine ⟨oo, nm, ts, xs, rfl, wd, no, fun m im => ?_⟩
      walk_at "x"
      refine ⟨_, oo, nm, ts, xs, m, rfl, u1, by omega, wd, no, im, fun o2 u2 => ?_⟩
      walk_at "x"
      refine x_eqD (by decide +kernel) (by decide +kernel) ?_
      rw [show eqB (.str "none") (.str "plan") = false by decide +kernel]
      walk_at "x"
      exact ⟨_, _, _, _, rfl⟩
    · have t : ToldP oo nm ts xs c rs := ⟨h1, h2, h3, h4, h5⟩
      walk_at "x"
      refine ⟨oo, nm, ts, xs, rfl, wd, no, fun m im => ?_⟩
      walk_at "x"
      refine ⟨_, oo, nm, ts, xs, m, rfl, u1, by omega, wd, no, im, fun o2 u2 => ?_⟩
      walk_at "x"
      refine x_eqD (by decide +kernel) (by decide +kernel) ?_
      rw [show eqB (.str "plan") (.str "plan") = true by decide +kernel]
      walk_at "x"
      refine ⟨_, oo, nm, ts, xs, c, rs, rfl, u2, by omega, wd, no, t, fun o3 u3 => ?_⟩
      walk_at "x"
      exact ⟨_, _, _, _, rfl⟩
  rintro e ⟨x1, x2, x3, x4, rfl⟩
  walk_at "x"
  exact q

end
end K85

namespace K85
open PySem PySem.Spec PyProof.Rows L2 Lk Evl Fx



section
theorem glue {l : PySem.W.OpenLaw} {w : World} {K : PySem.W.Frag} {h : Heap} {mg : Str → Option Value} {fa c1 c2 c3 P1 P2 P3 : Addr} {fd : FuncData} (T : Txt K mg)
    (A1 : At K mg "next_actor" s_next_actor ["trust", "settled"]) (A2 : At K mg "givers_to" s_givers_to ["trust", "actor"]) (A3 : At K mg "find_bar" s_find_bar ["trust", "most", "settled"]) (A4 : At K mg "is_full" s_is_full ["trust", "most", "settled"]) (A5 : At K mg "is_in_ring" s_is_in_ring ["settled", "actor"]) (A6 : At K mg "lacks_time" s_lacks_time ["trust", "settled", "actor"]) (A7 : At K mg "_bears" s__bears ["tie", "wishes"]) (A8 : At K mg "_above" s__above ["settled", "actor"]) (A9 : At K mg "is_whole" s_is_whole ["thing"]) (A10 : At K mg "is_between" s_is_between ["thing", "least", "most"]) (A11 : At K mg "is_moment" s_is_moment ["thing"]) (A12 : At K mg "is_span" s_is_span ["since", "until"]) (A13 : AtC K mg "is_name" s_is_name ["thing"] c1) (A14 : AtC K mg "is_deeds" s_is_deeds ["thing"] c2) (A15 : At K mg "is_leave" s_is_leave ["thing"]) (A16 : AtC K mg "lies_within" s_lies_within ["leave", "other"] c3) (A17 : At K mg "is_plan" s_is_plan ["trust", "thing"]) (A18 : At K mg "_is_planned" s__is_planned ["thing"]) (A19 : At K mg "_made_leave" s__made_leave ["row"]) (A20 : At K mg "_has_tie" s__has_tie ["trust", "row"]) (A21 : At K mg "_has_giver" s__has_giver ["trust", "plan", "row"]) (A22 : At K mg "_is_granted" s__is_granted ["plan", "wish"]) (A23 : At K mg "least_plan" s_least_plan ["trust"]) (A24 : At K mg "_find_open" s__find_open ["trust", "most", "settled"]) (A25 : At K mg "_grow_tree" s__grow_tree ["trust", "most", "settled"]) (A26 : At K mg "_planned" s__planned ["trust", "settled", "actor"]) (A27 : At K mg "_law_cell_at" s__law_cell_at ["script", "k"]) (A28 : At K mg "_law_pool" s__law_pool ["cell", "place"]) (A29 : At K mg "_law_draw" s__law_draw ["pool", "many"]) (A30 : At K mg "_law_names" s__law_names ["pool", "many"]) (A31 : At K mg "_law_span" s__law_span ["pool", "way"]) (A32 : At K mg "_law_trust" s__law_trust ["pool", "most"]) (A33 : At K mg "_law_many" s__law_many ["trust"]) (A34 : At K mg "_law_more_right" s__law_more_right ["pool", "trust", "many"]) (A35 : At K mg "_law_used" s__law_used ["rows", "tie"]) (A36 : At K mg "_law_left_right" s__law_left_right ["pool", "trust", "rows"])
    (t1 : h.get? P1 = some { cls := .none, data := .fields #[] } ∧ PySem.W.CodeHd h c1 P1) (n1 : K.lookup P1 = none) (t2 : h.get? P2 = some { cls := .none, data := .fields #[] } ∧ PySem.W.CodeHd h c2 P2) (n2 : K.lookup P2 = none) (t3 : h.get? P3 = some { cls := .none, data := .fields #[] } ∧ PySem.W.CodeHd h c3 P3) (n3 : K.lookup P3 = none)
    (F : Fun K "law" "law" s_law fa fd) (hb : ∀ (s : Shared) (u : Value), BindsTo s fd ⟨[u], []⟩ [("script", u)]) : LawAt l w K 14 63 "script" mg h fa := by
  refine law_at (cs := [(c1, P1), (c2, P2), (c3, P3)]) ?_ ?_ ?_ hb fun base _ _ TB => ?_
  · intro p hp
    simp only [List.mem_cons, List.not_mem_nil, or_false] at hp
    rcases hp with rfl | rfl | rfl
    · exact t1.1
    · exact t2.1
    · exact t3.1
  · intro p hp
    simp only [List.mem_cons, List.not_mem_nil, or_false] at hp
    rcases hp with rfl | rfl | rfl
    · exact n1
    · exact n2
    · exact n3
  · intro p hp
    simp only [List.mem_cons, List.not_mem_nil, or_false] at hp
    rcases hp with rfl | rfl | rfl
    · exact t1.2
    · exact t2.2
    · exact t3.2
  have b1 := TB (c1, P1) (by simp)
  have b2 := TB (c2, P2) (by simp)
  have b3 := TB (c3, P3) (by simp)
  show FnOk l.prog w K mg base CX0 14 fa fd ["script"] (spW K [P1, P2, P3] (liftF Fx.wLaw))
  have c_whole := ok_whole (P := l.prog) (w := w) (base := base) (tabs := [P1, P2, P3]) T A9
  have c_between := ok_between T c_whole A10
  have c_moment := ok_moment T c_between A11
  have c_span := ok_span T c_moment A12
  have c_name := ok_isname (P := l.prog) (w := w) (base := base) (tabs := [P1, P2, P3]) (by simp) T b1 A13
  have c_deeds := ok_deeds (P := l.prog) (w := w) (base := base) (tabs := [P1, P2, P3]) (by simp) T b2 A14
  have c_leave := A15.of fun f fd (F : Fun K "is_leave" "is_leave" s_is_leave f fd) => leave_fn (P := l.prog) (w := w) (base := base) (tabs := [P1, P2, P3]) (c_1 := 0) T c_whole c_between c_span c_name c_deeds F
  have c_lies := ok_lies (P := l.prog) (w := w) (base := base) (tabs := [P1, P2, P3]) (by simp) T b3 A16
  have c_made := ok_made (P := l.prog) (w := w) (base := base) (tabs := [P1, P2, P3]) T A19
  have c_planned := ok_planned T c_leave c_made A18
  have c_tie := ok_hastie (P := l.prog) (w := w) (base := base) (tabs := [P1, P2, P3]) T A20
  have c_giver := ok_hasgiver T c_lies c_made A21
  have c_granted := ok_granted (P := l.prog) (w := w) (base := base) (tabs := [P1, P2, P3]) T A22
  have c_plan := ok_plan T c_planned c_tie c_giver c_granted A17
  have c_cell := ok_cell_at (P := l.prog) (w := w) (base := base) (tabs := [P1, P2, P3]) T A27
  have c_pool := ok_pool (P := l.prog) (w := w) (base := base) (tabs := [P1, P2, P3]) T A28
  have c_draw := ok_draw (P := l.prog) (w := w) (mg := mg) (base := base) (tabs := [P1, P2, P3]) A29
  have c_names := ok_names T c_draw A30
  have c_lspan := ok_lspan c_draw A31
  have c_tg := ok_trustg T c_draw c_names c_lspan A32
  have c_above := ok_above (P := l.prog) (w := w) (base := base) (tabs := [P1, P2, P3]) T A8
  have c_ring := ok_ring T c_above A5
  have c_bears := ok_bears (P := l.prog) (w := w) (base := base) (tabs := [P1, P2, P3]) T A7
  have c_lacks := ok_lacks T c_above c_bears A6
  have c_next := ok_nexta (P := l.prog) (w := w) (base := base) (tabs := [P1, P2, P3]) T A1
  have c_givers := ok_givers (P := l.prog) (w := w) (base := base) (tabs := [P1, P2, P3]) T A2
  have c_full := ok_full T c_next A4
  have c_find := ok_find_bar T c_full c_ring c_lacks A3
  have c_open := ok_openN T c_find c_next c_givers A24 7
  have c_grow := ok_treeN T c_find c_next c_givers A25 7
  have c_pln := ok_planR (P := l.prog) (w := w) (base := base) (tabs := [P1, P2, P3]) T A26
  have c_least := ok_least T c_open c_grow c_pln A23
  have c_many := ok_many T c_least A33
  have c_used := ok_used (P := l.prog) (w := w) (base := base) (tabs := [P1, P2, P3]) T A35
  have c_more := ok_more T c_draw c_lspan c_many A34
  have c_left := ok_left T c_draw c_used c_many c_plan A36
  exact fn_law T c_least c_many c_cell c_pool c_tg c_more c_left F
end
theorem all_mk {l : PySem.W.OpenLaw} {w : World} {K : PySem.W.Frag} {h : Heap} {mg : Str → Option Value} {fa : Addr} (KX : K.In h) (G : h.Ns mainGlobals mg) (hfa : mg "law" = some (.ref fa))
    {f1 f2 f3 f4 f5 f6 f7 f8 f9 f10 f11 f12 f13 f14 f15 f16 f17 f18 f19 f20 f21 f22 f23 f24 f25 f26 f27 f28 f29 f30 f31 f32 f33 f34 f35 f36 f37 : Addr} {od1 an1 od2 an2 od3 an3 od4 an4 od5 an5 od6 an6 od7 an7 od8 an8 od9 an9 od10 an10 od11 an11 od12 an12 od13 an13 od14 an14 od15 an15 od16 an16 od17 an17 od18 an18 od19 an19 od20 an20 od21 an21 od22 an22 od23 an23 od24 an24 od25 an25 od26 an26 od27 an27 od28 an28 od29 an29 od30 an30 od31 an31 od32 an32 od33 an33 od34 an34 od35 an35 od36 an36 od37 an37 : Option Addr} {sl1 sl2 sl3 sl4 sl5 sl6 sl7 sl8 sl9 sl10 sl11 sl12 sl13 sl14 sl15 sl16 sl17 sl18 sl19 sl20 sl21 sl22 sl23 sl24 sl25 sl26 sl27 sl28 sl29 sl30 sl31 sl32 sl33 sl34 sl35 sl36 sl37 : Array (Option Value)}
    {oc1 kV1 dc1 pm1 ct1 cd1 oc2 kV2 dc2 pm2 ct2 cd2 oc3 kV3 dc3 pm3 ct3 cd3 oc4 kV4 dc4 pm4 ct4 cd4 oc5 kV5 dc5 pm5 ct5 cd5 oc6 kV6 dc6 pm6 ct6 cd6 oc7 kV7 dc7 pm7 ct7 cd7 oc8 kV8 dc8 pm8 ct8 cd8 oc9 kV9 dc9 pm9 ct9 cd9 oc10 kV10 dc10 pm10 ct10 cd10 oc11 kV11 dc11 pm11 ct11 cd11 oc12 kV12 dc12 pm12 ct12 cd12 oc13 kV13 dc13 pm13 ct13 oc14 kV14 dc14 pm14 ct14 oc15 kV15 dc15 pm15 ct15 cd15 oc16 kV16 dc16 pm16 ct16 oc17 kV17 dc17 pm17 ct17 cd17 oc18 kV18 dc18 pm18 ct18 cd18 oc19 kV19 dc19 pm19 ct19 cd19 oc20 kV20 dc20 pm20 ct20 cd20 oc21 kV21 dc21 pm21 ct21 cd21 oc22 kV22 dc22 pm22 ct22 cd22 oc23 kV23 dc23 pm23 ct23 cd23 oc24 kV24 dc24 pm24 ct24 cd24 oc25 kV25 dc25 pm25 ct25 cd25 oc26 kV26 dc26 pm26 ct26 cd26 oc27 kV27 dc27 pm27 ct27 cd27 oc28 kV28 dc28 pm28 ct28 cd28 oc29 kV29 dc29 pm29 ct29 cd29 oc30 kV30 dc30 pm30 ct30 cd30 oc31 kV31 dc31 pm31 ct31 cd31 oc32 kV32 dc32 pm32 ct32 cd32 oc33 kV33 dc33 pm33 ct33 cd33 oc34 kV34 dc34 pm34 ct34 cd34 oc35 kV35 dc35 pm35 ct35 cd35 oc36 kV36 dc36 pm36 ct36 cd36 oc37 kV37 dc37 pm37 ct37 cd37 : Value}
    {q : Program} (TT : Tabs q K mg h) {cc13 pp13 cc14 pp14 cc16 pp16 : Addr} {ce13 ce14 ce16 : Value} {dd13 dd14 dd16 : Option Addr} {vs13 vs14 vs16 : Array Value} {sk13 sk14 sk16 : Array (Option Value)}
    (a1 : PySem.W.nsIn K mainGlobals "next_actor" = some (some (.ref f1)))
    (l1 : K.lookup f1 = some ⟨oc1, od1, .func (PySem.W.fnOf "next_actor" "next_actor" (defArgs s_next_actor) (defBody s_next_actor) (defScope s_next_actor) .none kV1 dc1 pm1 an1 cd1 ct1), sl1⟩)
    (c1 : PySem.W.codeIn K cd1 "next_actor" = true)
    (k1 : PySem.W.keepIn K (.ref f1) = true)
    (a2 : PySem.W.nsIn K mainGlobals "givers_to" = some (some (.ref f2)))
    (l2 : K.lookup f2 = some ⟨oc2, od2, .func (PySem.W.fnOf "givers_to" "givers_to" (defArgs s_givers_to) (defBody s_givers_to) (defScope s_givers_to) .none kV2 dc2 pm2 an2 cd2 ct2), sl2⟩)
    (c2 : PySem.W.codeIn K cd2 "givers_to" = true)
    (k2 : PySem.W.keepIn K (.ref f2) = true)
    (a3 : PySem.W.nsIn K mainGlobals "find_bar" = some (some (.ref f3)))
    (l3 : K.lookup f3 = some ⟨oc3, od3, .func (PySem.W.fnOf "find_bar" "find_bar" (defArgs s_find_bar) (defBody s_find_bar) (defScope s_find_bar) .none kV3 dc3 pm3 an3 cd3 ct3), sl3⟩)
    (c3 : PySem.W.codeIn K cd3 "find_bar" = true)
    (k3 : PySem.W.keepIn K (.ref f3) = true)
    (a4 : PySem.W.nsIn K mainGlobals "is_full" = some (some (.ref f4)))
    (l4 : K.lookup f4 = some ⟨oc4, od4, .func (PySem.W.fnOf "is_full" "is_full" (defArgs s_is_full) (defBody s_is_full) (defScope s_is_full) .none kV4 dc4 pm4 an4 cd4 ct4), sl4⟩)
    (c4 : PySem.W.codeIn K cd4 "is_full" = true)
    (k4 : PySem.W.keepIn K (.ref f4) = true)
    (a5 : PySem.W.nsIn K mainGlobals "is_in_ring" = some (some (.ref f5)))
    (l5 : K.lookup f5 = some ⟨oc5, od5, .func (PySem.W.fnOf "is_in_ring" "is_in_ring" (defArgs s_is_in_ring) (defBody s_is_in_ring) (defScope s_is_in_ring) .none kV5 dc5 pm5 an5 cd5 ct5), sl5⟩)
    (c5 : PySem.W.codeIn K cd5 "is_in_ring" = true)
    (k5 : PySem.W.keepIn K (.ref f5) = true)
    (a6 : PySem.W.nsIn K mainGlobals "lacks_time" = some (some (.ref f6)))
    (l6 : K.lookup f6 = some ⟨oc6, od6, .func (PySem.W.fnOf "lacks_time" "lacks_time" (defArgs s_lacks_time) (defBody s_lacks_time) (defScope s_lacks_time) .none kV6 dc6 pm6 an6 cd6 ct6), sl6⟩)
    (c6 : PySem.W.codeIn K cd6 "lacks_time" = true)
    (k6 : PySem.W.keepIn K (.ref f6) = true)
    (a7 : PySem.W.nsIn K mainGlobals "_bears" = some (some (.ref f7)))
    (l7 : K.lookup f7 = some ⟨oc7, od7, .func (PySem.W.fnOf "_bears" "_bears" (defArgs s__bears) (defBody s__bears) (defScope s__bears) .none kV7 dc7 pm7 an7 cd7 ct7), sl7⟩)
    (c7 : PySem.W.codeIn K cd7 "_bears" = true)
    (k7 : PySem.W.keepIn K (.ref f7) = true)
    (a8 : PySem.W.nsIn K mainGlobals "_above" = some (some (.ref f8)))
    (l8 : K.lookup f8 = some ⟨oc8, od8, .func (PySem.W.fnOf "_above" "_above" (defArgs s__above) (defBody s__above) (defScope s__above) .none kV8 dc8 pm8 an8 cd8 ct8), sl8⟩)
    (c8 : PySem.W.codeIn K cd8 "_above" = true)
    (k8 : PySem.W.keepIn K (.ref f8) = true)
    (a9 : PySem.W.nsIn K mainGlobals "is_whole" = some (some (.ref f9)))
    (l9 : K.lookup f9 = some ⟨oc9, od9, .func (PySem.W.fnOf "is_whole" "is_whole" (defArgs s_is_whole) (defBody s_is_whole) (defScope s_is_whole) .none kV9 dc9 pm9 an9 cd9 ct9), sl9⟩)
    (c9 : PySem.W.codeIn K cd9 "is_whole" = true)
    (k9 : PySem.W.keepIn K (.ref f9) = true)
    (a10 : PySem.W.nsIn K mainGlobals "is_between" = some (some (.ref f10)))
    (l10 : K.lookup f10 = some ⟨oc10, od10, .func (PySem.W.fnOf "is_between" "is_between" (defArgs s_is_between) (defBody s_is_between) (defScope s_is_between) .none kV10 dc10 pm10 an10 cd10 ct10), sl10⟩)
    (c10 : PySem.W.codeIn K cd10 "is_between" = true)
    (k10 : PySem.W.keepIn K (.ref f10) = true)
    (a11 : PySem.W.nsIn K mainGlobals "is_moment" = some (some (.ref f11)))
    (l11 : K.lookup f11 = some ⟨oc11, od11, .func (PySem.W.fnOf "is_moment" "is_moment" (defArgs s_is_moment) (defBody s_is_moment) (defScope s_is_moment) .none kV11 dc11 pm11 an11 cd11 ct11), sl11⟩)
    (c11 : PySem.W.codeIn K cd11 "is_moment" = true)
    (k11 : PySem.W.keepIn K (.ref f11) = true)
    (a12 : PySem.W.nsIn K mainGlobals "is_span" = some (some (.ref f12)))
    (l12 : K.lookup f12 = some ⟨oc12, od12, .func (PySem.W.fnOf "is_span" "is_span" (defArgs s_is_span) (defBody s_is_span) (defScope s_is_span) .none kV12 dc12 pm12 an12 cd12 ct12), sl12⟩)
    (c12 : PySem.W.codeIn K cd12 "is_span" = true)
    (k12 : PySem.W.keepIn K (.ref f12) = true)
    (a13 : PySem.W.nsIn K mainGlobals "is_name" = some (some (.ref f13)))
    (l13 : K.lookup f13 = some ⟨oc13, od13, .func (PySem.W.fnOf "is_name" "is_name" (defArgs s_is_name) (defBody s_is_name) (defScope s_is_name) .none kV13 dc13 pm13 an13 (.ref cc13) ct13), sl13⟩)
    (c13 : PySem.W.codeIn K (.ref cc13) "is_name" = true)
    (k13 : PySem.W.keepIn K (.ref f13) = true)
    (j13 : ((recsOf q).any fun d => d.name == ("is_name" : Str)) = true)
    (q13 : K.lookup cc13 = some ⟨ce13, dd13, .fields vs13, sk13⟩)
    (r13 : vs13[11]? = some (.ref pp13))
    (n13 : K.lookup pp13 = none)
    (a14 : PySem.W.nsIn K mainGlobals "is_deeds" = some (some (.ref f14)))
    (l14 : K.lookup f14 = some ⟨oc14, od14, .func (PySem.W.fnOf "is_deeds" "is_deeds" (defArgs s_is_deeds) (defBody s_is_deeds) (defScope s_is_deeds) .none kV14 dc14 pm14 an14 (.ref cc14) ct14), sl14⟩)
    (c14 : PySem.W.codeIn K (.ref cc14) "is_deeds" = true)
    (k14 : PySem.W.keepIn K (.ref f14) = true)
    (j14 : ((recsOf q).any fun d => d.name == ("is_deeds" : Str)) = true)
    (q14 : K.lookup cc14 = some ⟨ce14, dd14, .fields vs14, sk14⟩)
    (r14 : vs14[11]? = some (.ref pp14))
    (n14 : K.lookup pp14 = none)
    (a15 : PySem.W.nsIn K mainGlobals "is_leave" = some (some (.ref f15)))
    (l15 : K.lookup f15 = some ⟨oc15, od15, .func (PySem.W.fnOf "is_leave" "is_leave" (defArgs s_is_leave) (defBody s_is_leave) (defScope s_is_leave) .none kV15 dc15 pm15 an15 cd15 ct15), sl15⟩)
    (c15 : PySem.W.codeIn K cd15 "is_leave" = true)
    (k15 : PySem.W.keepIn K (.ref f15) = true)
    (a16 : PySem.W.nsIn K mainGlobals "lies_within" = some (some (.ref f16)))
    (l16 : K.lookup f16 = some ⟨oc16, od16, .func (PySem.W.fnOf "lies_within" "lies_within" (defArgs s_lies_within) (defBody s_lies_within) (defScope s_lies_within) .none kV16 dc16 pm16 an16 (.ref cc16) ct16), sl16⟩)
    (c16 : PySem.W.codeIn K (.ref cc16) "lies_within" = true)
    (k16 : PySem.W.keepIn K (.ref f16) = true)
    (j16 : ((recsOf q).any fun d => d.name == ("lies_within" : Str)) = true)
    (q16 : K.lookup cc16 = some ⟨ce16, dd16, .fields vs16, sk16⟩)
    (r16 : vs16[11]? = some (.ref pp16))
    (n16 : K.lookup pp16 = none)
    (a17 : PySem.W.nsIn K mainGlobals "is_plan" = some (some (.ref f17)))
    (l17 : K.lookup f17 = some ⟨oc17, od17, .func (PySem.W.fnOf "is_plan" "is_plan" (defArgs s_is_plan) (defBody s_is_plan) (defScope s_is_plan) .none kV17 dc17 pm17 an17 cd17 ct17), sl17⟩)
    (c17 : PySem.W.codeIn K cd17 "is_plan" = true)
    (k17 : PySem.W.keepIn K (.ref f17) = true)
    (a18 : PySem.W.nsIn K mainGlobals "_is_planned" = some (some (.ref f18)))
    (l18 : K.lookup f18 = some ⟨oc18, od18, .func (PySem.W.fnOf "_is_planned" "_is_planned" (defArgs s__is_planned) (defBody s__is_planned) (defScope s__is_planned) .none kV18 dc18 pm18 an18 cd18 ct18), sl18⟩)
    (c18 : PySem.W.codeIn K cd18 "_is_planned" = true)
    (k18 : PySem.W.keepIn K (.ref f18) = true)
    (a19 : PySem.W.nsIn K mainGlobals "_made_leave" = some (some (.ref f19)))
    (l19 : K.lookup f19 = some ⟨oc19, od19, .func (PySem.W.fnOf "_made_leave" "_made_leave" (defArgs s__made_leave) (defBody s__made_leave) (defScope s__made_leave) .none kV19 dc19 pm19 an19 cd19 ct19), sl19⟩)
    (c19 : PySem.W.codeIn K cd19 "_made_leave" = true)
    (k19 : PySem.W.keepIn K (.ref f19) = true)
    (a20 : PySem.W.nsIn K mainGlobals "_has_tie" = some (some (.ref f20)))
    (l20 : K.lookup f20 = some ⟨oc20, od20, .func (PySem.W.fnOf "_has_tie" "_has_tie" (defArgs s__has_tie) (defBody s__has_tie) (defScope s__has_tie) .none kV20 dc20 pm20 an20 cd20 ct20), sl20⟩)
    (c20 : PySem.W.codeIn K cd20 "_has_tie" = true)
    (k20 : PySem.W.keepIn K (.ref f20) = true)
    (a21 : PySem.W.nsIn K mainGlobals "_has_giver" = some (some (.ref f21)))
    (l21 : K.lookup f21 = some ⟨oc21, od21, .func (PySem.W.fnOf "_has_giver" "_has_giver" (defArgs s__has_giver) (defBody s__has_giver) (defScope s__has_giver) .none kV21 dc21 pm21 an21 cd21 ct21), sl21⟩)
    (c21 : PySem.W.codeIn K cd21 "_has_giver" = true)
    (k21 : PySem.W.keepIn K (.ref f21) = true)
    (a22 : PySem.W.nsIn K mainGlobals "_is_granted" = some (some (.ref f22)))
    (l22 : K.lookup f22 = some ⟨oc22, od22, .func (PySem.W.fnOf "_is_granted" "_is_granted" (defArgs s__is_granted) (defBody s__is_granted) (defScope s__is_granted) .none kV22 dc22 pm22 an22 cd22 ct22), sl22⟩)
    (c22 : PySem.W.codeIn K cd22 "_is_granted" = true)
    (k22 : PySem.W.keepIn K (.ref f22) = true)
    (a23 : PySem.W.nsIn K mainGlobals "least_plan" = some (some (.ref f23)))
    (l23 : K.lookup f23 = some ⟨oc23, od23, .func (PySem.W.fnOf "least_plan" "least_plan" (defArgs s_least_plan) (defBody s_least_plan) (defScope s_least_plan) .none kV23 dc23 pm23 an23 cd23 ct23), sl23⟩)
    (c23 : PySem.W.codeIn K cd23 "least_plan" = true)
    (k23 : PySem.W.keepIn K (.ref f23) = true)
    (a24 : PySem.W.nsIn K mainGlobals "_find_open" = some (some (.ref f24)))
    (l24 : K.lookup f24 = some ⟨oc24, od24, .func (PySem.W.fnOf "_find_open" "_find_open" (defArgs s__find_open) (defBody s__find_open) (defScope s__find_open) .none kV24 dc24 pm24 an24 cd24 ct24), sl24⟩)
    (c24 : PySem.W.codeIn K cd24 "_find_open" = true)
    (k24 : PySem.W.keepIn K (.ref f24) = true)
    (a25 : PySem.W.nsIn K mainGlobals "_grow_tree" = some (some (.ref f25)))
    (l25 : K.lookup f25 = some ⟨oc25, od25, .func (PySem.W.fnOf "_grow_tree" "_grow_tree" (defArgs s__grow_tree) (defBody s__grow_tree) (defScope s__grow_tree) .none kV25 dc25 pm25 an25 cd25 ct25), sl25⟩)
    (c25 : PySem.W.codeIn K cd25 "_grow_tree" = true)
    (k25 : PySem.W.keepIn K (.ref f25) = true)
    (a26 : PySem.W.nsIn K mainGlobals "_planned" = some (some (.ref f26)))
    (l26 : K.lookup f26 = some ⟨oc26, od26, .func (PySem.W.fnOf "_planned" "_planned" (defArgs s__planned) (defBody s__planned) (defScope s__planned) .none kV26 dc26 pm26 an26 cd26 ct26), sl26⟩)
    (c26 : PySem.W.codeIn K cd26 "_planned" = true)
    (k26 : PySem.W.keepIn K (.ref f26) = true)
    (a27 : PySem.W.nsIn K mainGlobals "_law_cell_at" = some (some (.ref f27)))
    (l27 : K.lookup f27 = some ⟨oc27, od27, .func (PySem.W.fnOf "_law_cell_at" "_law_cell_at" (defArgs s__law_cell_at) (defBody s__law_cell_at) (defScope s__law_cell_at) .none kV27 dc27 pm27 an27 cd27 ct27), sl27⟩)
    (c27 : PySem.W.codeIn K cd27 "_law_cell_at" = true)
    (k27 : PySem.W.keepIn K (.ref f27) = true)
    (a28 : PySem.W.nsIn K mainGlobals "_law_pool" = some (some (.ref f28)))
    (l28 : K.lookup f28 = some ⟨oc28, od28, .func (PySem.W.fnOf "_law_pool" "_law_pool" (defArgs s__law_pool) (defBody s__law_pool) (defScope s__law_pool) .none kV28 dc28 pm28 an28 cd28 ct28), sl28⟩)
    (c28 : PySem.W.codeIn K cd28 "_law_pool" = true)
    (k28 : PySem.W.keepIn K (.ref f28) = true)
    (a29 : PySem.W.nsIn K mainGlobals "_law_draw" = some (some (.ref f29)))
    (l29 : K.lookup f29 = some ⟨oc29, od29, .func (PySem.W.fnOf "_law_draw" "_law_draw" (defArgs s__law_draw) (defBody s__law_draw) (defScope s__law_draw) .none kV29 dc29 pm29 an29 cd29 ct29), sl29⟩)
    (c29 : PySem.W.codeIn K cd29 "_law_draw" = true)
    (k29 : PySem.W.keepIn K (.ref f29) = true)
    (a30 : PySem.W.nsIn K mainGlobals "_law_names" = some (some (.ref f30)))
    (l30 : K.lookup f30 = some ⟨oc30, od30, .func (PySem.W.fnOf "_law_names" "_law_names" (defArgs s__law_names) (defBody s__law_names) (defScope s__law_names) .none kV30 dc30 pm30 an30 cd30 ct30), sl30⟩)
    (c30 : PySem.W.codeIn K cd30 "_law_names" = true)
    (k30 : PySem.W.keepIn K (.ref f30) = true)
    (a31 : PySem.W.nsIn K mainGlobals "_law_span" = some (some (.ref f31)))
    (l31 : K.lookup f31 = some ⟨oc31, od31, .func (PySem.W.fnOf "_law_span" "_law_span" (defArgs s__law_span) (defBody s__law_span) (defScope s__law_span) .none kV31 dc31 pm31 an31 cd31 ct31), sl31⟩)
    (c31 : PySem.W.codeIn K cd31 "_law_span" = true)
    (k31 : PySem.W.keepIn K (.ref f31) = true)
    (a32 : PySem.W.nsIn K mainGlobals "_law_trust" = some (some (.ref f32)))
    (l32 : K.lookup f32 = some ⟨oc32, od32, .func (PySem.W.fnOf "_law_trust" "_law_trust" (defArgs s__law_trust) (defBody s__law_trust) (defScope s__law_trust) .none kV32 dc32 pm32 an32 cd32 ct32), sl32⟩)
    (c32 : PySem.W.codeIn K cd32 "_law_trust" = true)
    (k32 : PySem.W.keepIn K (.ref f32) = true)
    (a33 : PySem.W.nsIn K mainGlobals "_law_many" = some (some (.ref f33)))
    (l33 : K.lookup f33 = some ⟨oc33, od33, .func (PySem.W.fnOf "_law_many" "_law_many" (defArgs s__law_many) (defBody s__law_many) (defScope s__law_many) .none kV33 dc33 pm33 an33 cd33 ct33), sl33⟩)
    (c33 : PySem.W.codeIn K cd33 "_law_many" = true)
    (k33 : PySem.W.keepIn K (.ref f33) = true)
    (a34 : PySem.W.nsIn K mainGlobals "_law_more_right" = some (some (.ref f34)))
    (l34 : K.lookup f34 = some ⟨oc34, od34, .func (PySem.W.fnOf "_law_more_right" "_law_more_right" (defArgs s__law_more_right) (defBody s__law_more_right) (defScope s__law_more_right) .none kV34 dc34 pm34 an34 cd34 ct34), sl34⟩)
    (c34 : PySem.W.codeIn K cd34 "_law_more_right" = true)
    (k34 : PySem.W.keepIn K (.ref f34) = true)
    (a35 : PySem.W.nsIn K mainGlobals "_law_used" = some (some (.ref f35)))
    (l35 : K.lookup f35 = some ⟨oc35, od35, .func (PySem.W.fnOf "_law_used" "_law_used" (defArgs s__law_used) (defBody s__law_used) (defScope s__law_used) .none kV35 dc35 pm35 an35 cd35 ct35), sl35⟩)
    (c35 : PySem.W.codeIn K cd35 "_law_used" = true)
    (k35 : PySem.W.keepIn K (.ref f35) = true)
    (a36 : PySem.W.nsIn K mainGlobals "_law_left_right" = some (some (.ref f36)))
    (l36 : K.lookup f36 = some ⟨oc36, od36, .func (PySem.W.fnOf "_law_left_right" "_law_left_right" (defArgs s__law_left_right) (defBody s__law_left_right) (defScope s__law_left_right) .none kV36 dc36 pm36 an36 cd36 ct36), sl36⟩)
    (c36 : PySem.W.codeIn K cd36 "_law_left_right" = true)
    (k36 : PySem.W.keepIn K (.ref f36) = true)
    (a37 : PySem.W.nsIn K mainGlobals "law" = some (some (.ref f37)))
    (l37 : K.lookup f37 = some ⟨oc37, od37, .func (PySem.W.fnOf "law" "law" (defArgs s_law) (defBody s_law) (defScope s_law) .none kV37 dc37 pm37 an37 cd37 ct37), sl37⟩)
    (c37 : PySem.W.codeIn K cd37 "law" = true)
    (k37 : PySem.W.keepIn K (.ref f37) = true)
    (z_all : PySem.W.nsIn K mainGlobals "all" = some none)
    (z_any : PySem.W.nsIn K mainGlobals "any" = some none)
    (z_bool : PySem.W.nsIn K mainGlobals "bool" = some none)
    (z_int : PySem.W.nsIn K mainGlobals "int" = some none)
    (z_isinstance : PySem.W.nsIn K mainGlobals "isinstance" = some none)
    (z_len : PySem.W.nsIn K mainGlobals "len" = some none)
    (z_max : PySem.W.nsIn K mainGlobals "max" = some none)
    (z_min : PySem.W.nsIn K mainGlobals "min" = some none)
    (z_range : PySem.W.nsIn K mainGlobals "range" = some none)
    (z_set : PySem.W.nsIn K mainGlobals "set" = some none)
    (z_sorted : PySem.W.nsIn K mainGlobals "sorted" = some none)
    (z_str : PySem.W.nsIn K mainGlobals "str" = some none)
    (z_tuple : PySem.W.nsIn K mainGlobals "tuple" = some none)
    {t3 : Tok}
    {p2c : Addr} {od2c : Option Addr} {n2c : Nat} {sl2c : Array (Option Value)}
    {t5 : Tok}
    {p4c : Addr} {od4c : Option Addr} {n4c : Nat} {sl4c : Array (Option Value)}
    {t7 : Tok}
    {t8 : Tok}
    {p6c : Addr} {od6c : Option Addr} {n6c : Nat} {sl6c : Array (Option Value)}
    {p1c : Addr} {od1c : Option Addr} {n1c : Nat} {sl1c : Array (Option Value)}
    (g_ALL_DEEDS : PySem.W.nsIn K mainGlobals "ALL_DEEDS" = some (some (.ref p1c)))
    (o1c : K.lookup p1c = some ⟨.type "tuple", od1c, .seq #[.ref p2c, .ref p4c, .ref p6c] n1c, sl1c⟩)
    (o2c : K.lookup p2c = some ⟨.type "tuple", od2c, .seq #[.str "look" t3] n2c, sl2c⟩)
    (o4c : K.lookup p4c = some ⟨.type "tuple", od4c, .seq #[.str "set" t5] n4c, sl4c⟩)
    (o6c : K.lookup p6c = some ⟨.type "tuple", od6c, .seq #[.str "look" t7, .str "set" t8] n6c, sl6c⟩)
    {t10 : Tok}
    {t11 : Tok}
    {p9c : Addr} {od9c : Option Addr} {n9c : Nat} {sl9c : Array (Option Value)}
    (g_BOTH_DEEDS : PySem.W.nsIn K mainGlobals "BOTH_DEEDS" = some (some (.ref p9c)))
    (o9c : K.lookup p9c = some ⟨.type "tuple", od9c, .seq #[.str "look" t10, .str "set" t11] n9c, sl9c⟩)
    {t12 : Tok}
    (g_DEEDS : PySem.W.nsIn K mainGlobals "DEEDS" = some (some (.int (2) t12)))
    {t13 : Tok}
    (g_GIVER : PySem.W.nsIn K mainGlobals "GIVER" = some (some (.int (3) t13)))
    {t14 : Tok}
    (g_HOLDER : PySem.W.nsIn K mainGlobals "HOLDER" = some (some (.int (4) t14)))
    {t15 : Tok}
    (g_LAST_MOMENT : PySem.W.nsIn K mainGlobals "LAST_MOMENT" = some (some (.int (1000000) t15)))
    {t16 : Tok}
    (g_LONGEST_NAME : PySem.W.nsIn K mainGlobals "LONGEST_NAME" = some (some (.int (8) t16)))
    {t17 : Tok}
    (g_MOST_PASSES : PySem.W.nsIn K mainGlobals "MOST_PASSES" = some (some (.int (6) t17)))
    {t18 : Tok}
    (g_OWNER : PySem.W.nsIn K mainGlobals "OWNER" = some (some (.int (0) t18)))
    {t19 : Tok}
    (g_PASSES : PySem.W.nsIn K mainGlobals "PASSES" = some (some (.int (7) t19)))
    {t20 : Tok}
    (g_ROOM : PySem.W.nsIn K mainGlobals "ROOM" = some (some (.int (1) t20)))
    {t21 : Tok}
    (g_ROOM_NAME : PySem.W.nsIn K mainGlobals "ROOM_NAME" = some (some (.str "room" t21)))
    {t22 : Tok}
    (g_SINCE : PySem.W.nsIn K mainGlobals "SINCE" = some (some (.int (5) t22)))
    {t23 : Tok}
    (g_TIES : PySem.W.nsIn K mainGlobals "TIES" = some (some (.int (1) t23)))
    {t24 : Tok}
    (g_UNTIL : PySem.W.nsIn K mainGlobals "UNTIL" = some (some (.int (6) t24)))
    {t25 : Tok}
    (g_WISHES : PySem.W.nsIn K mainGlobals "WISHES" = some (some (.int (2) t25)))
    : LawAt l w K 14 63 "script" mg h fa := by
  have T : Txt K mg := ⟨PySem.W.mg_none_of KX G z_all, PySem.W.mg_none_of KX G z_any, PySem.W.mg_none_of KX G z_bool, PySem.W.mg_none_of KX G z_int, PySem.W.mg_none_of KX G z_isinstance, PySem.W.mg_none_of KX G z_len, PySem.W.mg_none_of KX G z_max, PySem.W.mg_none_of KX G z_min, PySem.W.mg_none_of KX G z_range, PySem.W.mg_none_of KX G z_set, PySem.W.mg_none_of KX G z_sorted, PySem.W.mg_none_of KX G z_str, PySem.W.mg_none_of KX G z_tuple, ⟨.ref p1c, _, PySem.W.mg_of KX G g_ALL_DEEDS, rfl, fun _ => (.tup (vs := [.ref p2c, .ref p4c, .ref p6c]) (.inr ⟨_, _, _, o1c, rfl, rfl, (show 3 ≤ sizeLine by decide), (.cons rfl (.cons rfl (.cons rfl .nil)))⟩) (.cons (.tup (vs := [.str "look"]) (.inr ⟨_, _, _, o2c, rfl, rfl, (show 1 ≤ sizeLine by decide), (.cons ⟨_, rfl⟩ .nil)⟩) (.cons (.str _) .nil)) (.cons (.tup (vs := [.str "set"]) (.inr ⟨_, _, _, o4c, rfl, rfl, (show 1 ≤ sizeLine by decide), (.cons ⟨_, rfl⟩ .nil)⟩) (.cons (.str _) .nil)) (.cons (.tup (vs := [.str "look", .str "set"]) (.inr ⟨_, _, _, o6c, rfl, rfl, (show 2 ≤ sizeLine by decide), (.cons ⟨_, rfl⟩ (.cons ⟨_, rfl⟩ .nil))⟩) (.cons (.str _) (.cons (.str _) .nil))) .nil))))⟩, ⟨.ref p9c, _, PySem.W.mg_of KX G g_BOTH_DEEDS, rfl, fun _ => (.tup (vs := [.str "look", .str "set"]) (.inr ⟨_, _, _, o9c, rfl, rfl, (show 2 ≤ sizeLine by decide), (.cons ⟨_, rfl⟩ (.cons ⟨_, rfl⟩ .nil))⟩) (.cons (.str _) (.cons (.str _) .nil)))⟩, ⟨.int (2), _, PySem.W.mg_of KX G g_DEEDS, ⟨_, rfl⟩, fun _ => (.int _)⟩, ⟨.int (3), _, PySem.W.mg_of KX G g_GIVER, ⟨_, rfl⟩, fun _ => (.int _)⟩, ⟨.int (4), _, PySem.W.mg_of KX G g_HOLDER, ⟨_, rfl⟩, fun _ => (.int _)⟩, ⟨.int (1000000), _, PySem.W.mg_of KX G g_LAST_MOMENT, ⟨_, rfl⟩, fun _ => (.int _)⟩, ⟨.int (8), _, PySem.W.mg_of KX G g_LONGEST_NAME, ⟨_, rfl⟩, fun _ => (.int _)⟩, ⟨.int (6), _, PySem.W.mg_of KX G g_MOST_PASSES, ⟨_, rfl⟩, fun _ => (.int _)⟩, ⟨.int (0), _, PySem.W.mg_of KX G g_OWNER, ⟨_, rfl⟩, fun _ => (.int _)⟩, ⟨.int (7), _, PySem.W.mg_of KX G g_PASSES, ⟨_, rfl⟩, fun _ => (.int _)⟩, ⟨.int (1), _, PySem.W.mg_of KX G g_ROOM, ⟨_, rfl⟩, fun _ => (.int _)⟩, ⟨.str "room", _, PySem.W.mg_of KX G g_ROOM_NAME, ⟨_, rfl⟩, fun _ => (.str _)⟩, ⟨.int (5), _, PySem.W.mg_of KX G g_SINCE, ⟨_, rfl⟩, fun _ => (.int _)⟩, ⟨.int (1), _, PySem.W.mg_of KX G g_TIES, ⟨_, rfl⟩, fun _ => (.int _)⟩, ⟨.int (6), _, PySem.W.mg_of KX G g_UNTIL, ⟨_, rfl⟩, fun _ => (.int _)⟩, ⟨.int (2), _, PySem.W.mg_of KX G g_WISHES, ⟨_, rfl⟩, fun _ => (.int _)⟩⟩
  have F1 := fun_mk (st := s_next_actor) l1 c1 k1
  have A_next_actor : At K mg "next_actor" s_next_actor ["trust", "settled"] := ⟨f1, _, F1, PySem.W.mg_of KX G a1, F1.binds (ps := ["trust", "settled"]) fun _ _ _ _ _ _ us hl => match us, hl with | [_, _], _ => rfl⟩
  have F2 := fun_mk (st := s_givers_to) l2 c2 k2
  have A_givers_to : At K mg "givers_to" s_givers_to ["trust", "actor"] := ⟨f2, _, F2, PySem.W.mg_of KX G a2, F2.binds (ps := ["trust", "actor"]) fun _ _ _ _ _ _ us hl => match us, hl with | [_, _], _ => rfl⟩
  have F3 := fun_mk (st := s_find_bar) l3 c3 k3
  have A_find_bar : At K mg "find_bar" s_find_bar ["trust", "most", "settled"] := ⟨f3, _, F3, PySem.W.mg_of KX G a3, F3.binds (ps := ["trust", "most", "settled"]) fun _ _ _ _ _ _ us hl => match us, hl with | [_, _, _], _ => rfl⟩
  have F4 := fun_mk (st := s_is_full) l4 c4 k4
  have A_is_full : At K mg "is_full" s_is_full ["trust", "most", "settled"] := ⟨f4, _, F4, PySem.W.mg_of KX G a4, F4.binds (ps := ["trust", "most", "settled"]) fun _ _ _ _ _ _ us hl => match us, hl with | [_, _, _], _ => rfl⟩
  have F5 := fun_mk (st := s_is_in_ring) l5 c5 k5
  have A_is_in_ring : At K mg "is_in_ring" s_is_in_ring ["settled", "actor"] := ⟨f5, _, F5, PySem.W.mg_of KX G a5, F5.binds (ps := ["settled", "actor"]) fun _ _ _ _ _ _ us hl => match us, hl with | [_, _], _ => rfl⟩
  have F6 := fun_mk (st := s_lacks_time) l6 c6 k6
  have A_lacks_time : At K mg "lacks_time" s_lacks_time ["trust", "settled", "actor"] := ⟨f6, _, F6, PySem.W.mg_of KX G a6, F6.binds (ps := ["trust", "settled", "actor"]) fun _ _ _ _ _ _ us hl => match us, hl with | [_, _, _], _ => rfl⟩
  have F7 := fun_mk (st := s__bears) l7 c7 k7
  have A__bears : At K mg "_bears" s__bears ["tie", "wishes"] := ⟨f7, _, F7, PySem.W.mg_of KX G a7, F7.binds (ps := ["tie", "wishes"]) fun _ _ _ _ _ _ us hl => match us, hl with | [_, _], _ => rfl⟩
  have F8 := fun_mk (st := s__above) l8 c8 k8
  have A__above : At K mg "_above" s__above ["settled", "actor"] := ⟨f8, _, F8, PySem.W.mg_of KX G a8, F8.binds (ps := ["settled", "actor"]) fun _ _ _ _ _ _ us hl => match us, hl with | [_, _], _ => rfl⟩
  have F9 := fun_mk (st := s_is_whole) l9 c9 k9
  have A_is_whole : At K mg "is_whole" s_is_whole ["thing"] := ⟨f9, _, F9, PySem.W.mg_of KX G a9, F9.binds (ps := ["thing"]) fun _ _ _ _ _ _ us hl => match us, hl with | [_], _ => rfl⟩
  have F10 := fun_mk (st := s_is_between) l10 c10 k10
  have A_is_between : At K mg "is_between" s_is_between ["thing", "least", "most"] := ⟨f10, _, F10, PySem.W.mg_of KX G a10, F10.binds (ps := ["thing", "least", "most"]) fun _ _ _ _ _ _ us hl => match us, hl with | [_, _, _], _ => rfl⟩
  have F11 := fun_mk (st := s_is_moment) l11 c11 k11
  have A_is_moment : At K mg "is_moment" s_is_moment ["thing"] := ⟨f11, _, F11, PySem.W.mg_of KX G a11, F11.binds (ps := ["thing"]) fun _ _ _ _ _ _ us hl => match us, hl with | [_], _ => rfl⟩
  have F12 := fun_mk (st := s_is_span) l12 c12 k12
  have A_is_span : At K mg "is_span" s_is_span ["since", "until"] := ⟨f12, _, F12, PySem.W.mg_of KX G a12, F12.binds (ps := ["since", "until"]) fun _ _ _ _ _ _ us hl => match us, hl with | [_, _], _ => rfl⟩
  have F13 := fun_mk (st := s_is_name) l13 c13 k13
  have A_is_name : AtC K mg "is_name" s_is_name ["thing"] cc13 := ⟨f13, _, F13, PySem.W.mg_of KX G a13, (F13.binds (ps := ["thing"]) fun _ _ _ _ _ _ us hl => match us, hl with | [_], _ => rfl), rfl⟩
  have t_is_name := TT "is_name" _ _ _ _ _ _ _ _ _ _ _ j13 (PySem.W.mg_of KX G a13) l13 rfl q13 r13
  have F14 := fun_mk (st := s_is_deeds) l14 c14 k14
  have A_is_deeds : AtC K mg "is_deeds" s_is_deeds ["thing"] cc14 := ⟨f14, _, F14, PySem.W.mg_of KX G a14, (F14.binds (ps := ["thing"]) fun _ _ _ _ _ _ us hl => match us, hl with | [_], _ => rfl), rfl⟩
  have t_is_deeds := TT "is_deeds" _ _ _ _ _ _ _ _ _ _ _ j14 (PySem.W.mg_of KX G a14) l14 rfl q14 r14
  have F15 := fun_mk (st := s_is_leave) l15 c15 k15
  have A_is_leave : At K mg "is_leave" s_is_leave ["thing"] := ⟨f15, _, F15, PySem.W.mg_of KX G a15, F15.binds (ps := ["thing"]) fun _ _ _ _ _ _ us hl => match us, hl with | [_], _ => rfl⟩
  have F16 := fun_mk (st := s_lies_within) l16 c16 k16
  have A_lies_within : AtC K mg "lies_within" s_lies_within ["leave", "other"] cc16 := ⟨f16, _, F16, PySem.W.mg_of KX G a16, (F16.binds (ps := ["leave", "other"]) fun _ _ _ _ _ _ us hl => match us, hl with | [_, _], _ => rfl), rfl⟩
  have t_lies_within := TT "lies_within" _ _ _ _ _ _ _ _ _ _ _ j16 (PySem.W.mg_of KX G a16) l16 rfl q16 r16
  have F17 := fun_mk (st := s_is_plan) l17 c17 k17
  have A_is_plan : At K mg "is_plan" s_is_plan ["trust", "thing"] := ⟨f17, _, F17, PySem.W.mg_of KX G a17, F17.binds (ps := ["trust", "thing"]) fun _ _ _ _ _ _ us hl => match us, hl with | [_, _], _ => rfl⟩
  have F18 := fun_mk (st := s__is_planned) l18 c18 k18
  have A__is_planned : At K mg "_is_planned" s__is_planned ["thing"] := ⟨f18, _, F18, PySem.W.mg_of KX G a18, F18.binds (ps := ["thing"]) fun _ _ _ _ _ _ us hl => match us, hl with | [_], _ => rfl⟩
  have F19 := fun_mk (st := s__made_leave) l19 c19 k19
  have A__made_leave : At K mg "_made_leave" s__made_leave ["row"] := ⟨f19, _, F19, PySem.W.mg_of KX G a19, F19.binds (ps := ["row"]) fun _ _ _ _ _ _ us hl => match us, hl with | [_], _ => rfl⟩
  have F20 := fun_mk (st := s__has_tie) l20 c20 k20
  have A__has_tie : At K mg "_has_tie" s__has_tie ["trust", "row"] := ⟨f20, _, F20, PySem.W.mg_of KX G a20, F20.binds (ps := ["trust", "row"]) fun _ _ _ _ _ _ us hl => match us, hl with | [_, _], _ => rfl⟩
  have F21 := fun_mk (st := s__has_giver) l21 c21 k21
  have A__has_giver : At K mg "_has_giver" s__has_giver ["trust", "plan", "row"] := ⟨f21, _, F21, PySem.W.mg_of KX G a21, F21.binds (ps := ["trust", "plan", "row"]) fun _ _ _ _ _ _ us hl => match us, hl with | [_, _, _], _ => rfl⟩
  have F22 := fun_mk (st := s__is_granted) l22 c22 k22
  have A__is_granted : At K mg "_is_granted" s__is_granted ["plan", "wish"] := ⟨f22, _, F22, PySem.W.mg_of KX G a22, F22.binds (ps := ["plan", "wish"]) fun _ _ _ _ _ _ us hl => match us, hl with | [_, _], _ => rfl⟩
  have F23 := fun_mk (st := s_least_plan) l23 c23 k23
  have A_least_plan : At K mg "least_plan" s_least_plan ["trust"] := ⟨f23, _, F23, PySem.W.mg_of KX G a23, F23.binds (ps := ["trust"]) fun _ _ _ _ _ _ us hl => match us, hl with | [_], _ => rfl⟩
  have F24 := fun_mk (st := s__find_open) l24 c24 k24
  have A__find_open : At K mg "_find_open" s__find_open ["trust", "most", "settled"] := ⟨f24, _, F24, PySem.W.mg_of KX G a24, F24.binds (ps := ["trust", "most", "settled"]) fun _ _ _ _ _ _ us hl => match us, hl with | [_, _, _], _ => rfl⟩
  have F25 := fun_mk (st := s__grow_tree) l25 c25 k25
  have A__grow_tree : At K mg "_grow_tree" s__grow_tree ["trust", "most", "settled"] := ⟨f25, _, F25, PySem.W.mg_of KX G a25, F25.binds (ps := ["trust", "most", "settled"]) fun _ _ _ _ _ _ us hl => match us, hl with | [_, _, _], _ => rfl⟩
  have F26 := fun_mk (st := s__planned) l26 c26 k26
  have A__planned : At K mg "_planned" s__planned ["trust", "settled", "actor"] := ⟨f26, _, F26, PySem.W.mg_of KX G a26, F26.binds (ps := ["trust", "settled", "actor"]) fun _ _ _ _ _ _ us hl => match us, hl with | [_, _, _], _ => rfl⟩
  have F27 := fun_mk (st := s__law_cell_at) l27 c27 k27
  have A__law_cell_at : At K mg "_law_cell_at" s__law_cell_at ["script", "k"] := ⟨f27, _, F27, PySem.W.mg_of KX G a27, F27.binds (ps := ["script", "k"]) fun _ _ _ _ _ _ us hl => match us, hl with | [_, _], _ => rfl⟩
  have F28 := fun_mk (st := s__law_pool) l28 c28 k28
  have A__law_pool : At K mg "_law_pool" s__law_pool ["cell", "place"] := ⟨f28, _, F28, PySem.W.mg_of KX G a28, F28.binds (ps := ["cell", "place"]) fun _ _ _ _ _ _ us hl => match us, hl with | [_, _], _ => rfl⟩
  have F29 := fun_mk (st := s__law_draw) l29 c29 k29
  have A__law_draw : At K mg "_law_draw" s__law_draw ["pool", "many"] := ⟨f29, _, F29, PySem.W.mg_of KX G a29, F29.binds (ps := ["pool", "many"]) fun _ _ _ _ _ _ us hl => match us, hl with | [_, _], _ => rfl⟩
  have F30 := fun_mk (st := s__law_names) l30 c30 k30
  have A__law_names : At K mg "_law_names" s__law_names ["pool", "many"] := ⟨f30, _, F30, PySem.W.mg_of KX G a30, F30.binds (ps := ["pool", "many"]) fun _ _ _ _ _ _ us hl => match us, hl with | [_, _], _ => rfl⟩
  have F31 := fun_mk (st := s__law_span) l31 c31 k31
  have A__law_span : At K mg "_law_span" s__law_span ["pool", "way"] := ⟨f31, _, F31, PySem.W.mg_of KX G a31, F31.binds (ps := ["pool", "way"]) fun _ _ _ _ _ _ us hl => match us, hl with | [_, _], _ => rfl⟩
  have F32 := fun_mk (st := s__law_trust) l32 c32 k32
  have A__law_trust : At K mg "_law_trust" s__law_trust ["pool", "most"] := ⟨f32, _, F32, PySem.W.mg_of KX G a32, F32.binds (ps := ["pool", "most"]) fun _ _ _ _ _ _ us hl => match us, hl with | [_, _], _ => rfl⟩
  have F33 := fun_mk (st := s__law_many) l33 c33 k33
  have A__law_many : At K mg "_law_many" s__law_many ["trust"] := ⟨f33, _, F33, PySem.W.mg_of KX G a33, F33.binds (ps := ["trust"]) fun _ _ _ _ _ _ us hl => match us, hl with | [_], _ => rfl⟩
  have F34 := fun_mk (st := s__law_more_right) l34 c34 k34
  have A__law_more_right : At K mg "_law_more_right" s__law_more_right ["pool", "trust", "many"] := ⟨f34, _, F34, PySem.W.mg_of KX G a34, F34.binds (ps := ["pool", "trust", "many"]) fun _ _ _ _ _ _ us hl => match us, hl with | [_, _, _], _ => rfl⟩
  have F35 := fun_mk (st := s__law_used) l35 c35 k35
  have A__law_used : At K mg "_law_used" s__law_used ["rows", "tie"] := ⟨f35, _, F35, PySem.W.mg_of KX G a35, F35.binds (ps := ["rows", "tie"]) fun _ _ _ _ _ _ us hl => match us, hl with | [_, _], _ => rfl⟩
  have F36 := fun_mk (st := s__law_left_right) l36 c36 k36
  have A__law_left_right : At K mg "_law_left_right" s__law_left_right ["pool", "trust", "rows"] := ⟨f36, _, F36, PySem.W.mg_of KX G a36, F36.binds (ps := ["pool", "trust", "rows"]) fun _ _ _ _ _ _ us hl => match us, hl with | [_, _, _], _ => rfl⟩
  have F37 := fun_mk (st := s_law) l37 c37 k37
  have A_law : At K mg "law" s_law ["script"] := ⟨f37, _, F37, PySem.W.mg_of KX G a37, F37.binds (ps := ["script"]) fun _ _ _ _ _ _ us hl => match us, hl with | [_], _ => rfl⟩
  have e := hfa.symm.trans (PySem.W.mg_of KX G a37)
  cases e
  exact glue T A_next_actor A_givers_to A_find_bar A_is_full A_is_in_ring A_lacks_time A__bears A__above A_is_whole A_is_between A_is_moment A_is_span A_is_name A_is_deeds A_is_leave A_lies_within A_is_plan A__is_planned A__made_leave A__has_tie A__has_giver A__is_granted A_least_plan A__find_open A__grow_tree A__planned A__law_cell_at A__law_pool A__law_draw A__law_names A__law_span A__law_trust A__law_many A__law_more_right A__law_used A__law_left_right t_is_name n13 t_is_deeds n14 t_lies_within n16 F37 (fun s v => .of_eq rfl)
--@ARGS a1 l1 c1 k1 a2 l2 c2 k2 a3 l3 c3 k3 a4 l4 c4 k4 a5 l5 c5 k5 a6 l6 c6 k6 a7 l7 c7 k7 a8 l8 c8 k8 a9 l9 c9 k9 a10 l10 c10 k10 a11 l11 c11 k11 a12 l12 c12 k12 a13 l13 c13 k13 j13 q13 r13 n13 a14 l14 c14 k14 j14 q14 r14 n14 a15 l15 c15 k15 a16 l16 c16 k16 j16 q16 r16 n16 a17 l17 c17 k17 a18 l18 c18 k18 a19 l19 c19 k19 a20 l20 c20 k20 a21 l21 c21 k21 a22 l22 c22 k22 a23 l23 c23 k23 a24 l24 c24 k24 a25 l25 c25 k25 a26 l26 c26 k26 a27 l27 c27 k27 a28 l28 c28 k28 a29 l29 c29 k29 a30 l30 c30 k30 a31 l31 c31 k31 a32 l32 c32 k32 a33 l33 c33 k33 a34 l34 c34 k34 a35 l35 c35 k35 a36 l36 c36 k36 a37 l37 c37 k37 z_all z_any z_bool z_int z_isinstance z_len z_max z_min z_range z_set z_sorted z_str z_tuple g_ALL_DEEDS o1c o2c o4c o6c g_BOTH_DEEDS o9c g_DEEDS g_GIVER g_HOLDER g_LAST_MOMENT g_LONGEST_NAME g_MOST_PASSES g_OWNER g_PASSES g_ROOM g_ROOM_NAME g_SINCE g_TIES g_UNTIL g_WISHES
end K85
open PySem PySem.W PyProof.Rows
set_option maxRecDepth 100000 in
set_option maxHeartbeats 0 in
theorem PySem.Challenge.cw_leavechain_k85_whole_more_and_less_trust_holds : PySem.Challenge.rw_leavechain_k85_whole_more_and_less_trust.Holds := by
  w_on; o_law; k_head; (case hw => w_witness2)
  k_fill
  refine Lk.walkX (l := PySem.Challenge.rw_leavechain_k85_whole_more_and_less_trust) (n := 63) (k := 14) (x := "script") rfl (by decide) rfl ⟨rfl, by decide, by decide⟩ (fun w h Y => PySem.W.kIn_of Y) ?F
  case F =>
    intro w mg mb fa s0 h Gr Y KX G hmg
    refine' K85.all_mk KX G hmg (Lk.tabs_of Gr KX) ?a1 ?l1 ?c1 ?k1 ?a2 ?l2 ?c2 ?k2 ?a3 ?l3 ?c3 ?k3 ?a4 ?l4 ?c4 ?k4 ?a5 ?l5 ?c5 ?k5 ?a6 ?l6 ?c6 ?k6 ?a7 ?l7 ?c7 ?k7 ?a8 ?l8 ?c8 ?k8 ?a9 ?l9 ?c9 ?k9 ?a10 ?l10 ?c10 ?k10 ?a11 ?l11 ?c11 ?k11 ?a12 ?l12 ?c12 ?k12 ?a13 ?l13 ?c13 ?k13 ?j13 ?q13 ?r13 ?n13 ?a14 ?l14 ?c14 ?k14 ?j14 ?q14 ?r14 ?n14 ?a15 ?l15 ?c15 ?k15 ?a16 ?l16 ?c16 ?k16 ?j16 ?q16 ?r16 ?n16 ?a17 ?l17 ?c17 ?k17 ?a18 ?l18 ?c18 ?k18 ?a19 ?l19 ?c19 ?k19 ?a20 ?l20 ?c20 ?k20 ?a21 ?l21 ?c21 ?k21 ?a22 ?l22 ?c22 ?k22 ?a23 ?l23 ?c23 ?k23 ?a24 ?l24 ?c24 ?k24 ?a25 ?l25 ?c25 ?k25 ?a26 ?l26 ?c26 ?k26 ?a27 ?l27 ?c27 ?k27 ?a28 ?l28 ?c28 ?k28 ?a29 ?l29 ?c29 ?k29 ?a30 ?l30 ?c30 ?k30 ?a31 ?l31 ?c31 ?k31 ?a32 ?l32 ?c32 ?k32 ?a33 ?l33 ?c33 ?k33 ?a34 ?l34 ?c34 ?k34 ?a35 ?l35 ?c35 ?k35 ?a36 ?l36 ?c36 ?k36 ?a37 ?l37 ?c37 ?k37 ?z_all ?z_any ?z_bool ?z_int ?z_isinstance ?z_len ?z_max ?z_min ?z_range ?z_set ?z_sorted ?z_str ?z_tuple ?g_ALL_DEEDS ?o1c ?o2c ?o4c ?o6c ?g_BOTH_DEEDS ?o9c ?g_DEEDS ?g_GIVER ?g_HOLDER ?g_LAST_MOMENT ?g_LONGEST_NAME ?g_MOST_PASSES ?g_OWNER ?g_PASSES ?g_ROOM ?g_ROOM_NAME ?g_SINCE ?g_TIES ?g_UNTIL ?g_WISHES
    (case a1 => k_is); (case l1 => k_is); (case c1 => k_is); (case k1 => k_is); (case a2 => k_is); (case l2 => k_is)
    (case c2 => k_is); (case k2 => k_is); (case a3 => k_is); (case l3 => k_is); (case c3 => k_is); (case k3 => k_is)
    (case a4 => k_is); (case l4 => k_is); (case c4 => k_is); (case k4 => k_is); (case a5 => k_is); (case l5 => k_is)
    (case c5 => k_is); (case k5 => k_is); (case a6 => k_is); (case l6 => k_is); (case c6 => k_is); (case k6 => k_is)
    (case a7 => k_is); (case l7 => k_is); (case c7 => k_is); (case k7 => k_is); (case a8 => k_is); (case l8 => k_is)
    (case c8 => k_is); (case k8 => k_is); (case a9 => k_is); (case l9 => k_is); (case c9 => k_is); (case k9 => k_is)
    (case a10 => k_is); (case l10 => k_is); (case c10 => k_is); (case k10 => k_is); (case a11 => k_is); (case l11 => k_is)
    (case c11 => k_is); (case k11 => k_is); (case a12 => k_is); (case l12 => k_is); (case c12 => k_is); (case k12 => k_is)
    (case a13 => k_is); (case l13 => k_is); (case c13 => k_is); (case k13 => k_is); (case j13 => first | rfl | decide +kernel); (case q13 => k_is)
    (case r13 => rfl); (case n13 => first | rfl | decide +kernel | k_is); (case a14 => k_is); (case l14 => k_is); (case c14 => k_is); (case k14 => k_is)
    (case j14 => first | rfl | decide +kernel); (case q14 => k_is); (case r14 => rfl); (case n14 => first | rfl | decide +kernel | k_is); (case a15 => k_is); (case l15 => k_is)
    (case c15 => k_is); (case k15 => k_is); (case a16 => k_is); (case l16 => k_is); (case c16 => k_is); (case k16 => k_is)
    (case j16 => first | rfl | decide +kernel); (case q16 => k_is); (case r16 => rfl); (case n16 => first | rfl | decide +kernel | k_is); (case a17 => k_is); (case l17 => k_is)
    (case c17 => k_is); (case k17 => k_is); (case a18 => k_is); (case l18 => k_is); (case c18 => k_is); (case k18 => k_is)
    (case a19 => k_is); (case l19 => k_is); (case c19 => k_is); (case k19 => k_is); (case a20 => k_is); (case l20 => k_is)
    (case c20 => k_is); (case k20 => k_is); (case a21 => k_is); (case l21 => k_is); (case c21 => k_is); (case k21 => k_is)
    (case a22 => k_is); (case l22 => k_is); (case c22 => k_is); (case k22 => k_is); (case a23 => k_is); (case l23 => k_is)
    (case c23 => k_is); (case k23 => k_is); (case a24 => k_is); (case l24 => k_is); (case c24 => k_is); (case k24 => k_is)
    (case a25 => k_is); (case l25 => k_is); (case c25 => k_is); (case k25 => k_is); (case a26 => k_is); (case l26 => k_is)
    (case c26 => k_is); (case k26 => k_is); (case a27 => k_is); (case l27 => k_is); (case c27 => k_is); (case k27 => k_is)
    (case a28 => k_is); (case l28 => k_is); (case c28 => k_is); (case k28 => k_is); (case a29 => k_is); (case l29 => k_is)
    (case c29 => k_is); (case k29 => k_is); (case a30 => k_is); (case l30 => k_is); (case c30 => k_is); (case k30 => k_is)
    (case a31 => k_is); (case l31 => k_is); (case c31 => k_is); (case k31 => k_is); (case a32 => k_is); (case l32 => k_is)
    (case c32 => k_is); (case k32 => k_is); (case a33 => k_is); (case l33 => k_is); (case c33 => k_is); (case k33 => k_is)
    (case a34 => k_is); (case l34 => k_is); (case c34 => k_is); (case k34 => k_is); (case a35 => k_is); (case l35 => k_is)
    (case c35 => k_is); (case k35 => k_is); (case a36 => k_is); (case l36 => k_is); (case c36 => k_is); (case k36 => k_is)
    (case a37 => k_is); (case l37 => k_is); (case c37 => k_is); (case k37 => k_is); (case z_all => k_is); (case z_any => k_is)
    (case z_bool => k_is); (case z_int => k_is); (case z_isinstance => k_is); (case z_len => k_is); (case z_max => k_is); (case z_min => k_is)
    (case z_range => k_is); (case z_set => k_is); (case z_sorted => k_is); (case z_str => k_is); (case z_tuple => k_is); (case g_ALL_DEEDS => k_is)
    (case o1c => k_is); (case o2c => k_is); (case o4c => k_is); (case o6c => k_is); (case g_BOTH_DEEDS => k_is); (case o9c => k_is)
    (case g_DEEDS => k_is); (case g_GIVER => k_is); (case g_HOLDER => k_is); (case g_LAST_MOMENT => k_is); (case g_LONGEST_NAME => k_is); (case g_MOST_PASSES => k_is)
    (case g_OWNER => k_is); (case g_PASSES => k_is); (case g_ROOM => k_is); (case g_ROOM_NAME => k_is); (case g_SINCE => k_is); (case g_TIES => k_is)
    (case g_UNTIL => k_is); (case g_WISHES => k_is)

