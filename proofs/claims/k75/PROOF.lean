import PyProof.Rows.All
import Wide.All
import OpenK.AllK
import Wide.FinOn
import HandS.ForMost
import HandS.Codes
import HandS.Evl
import HandS.FStr
import HandS.Wide
import HandS.Zip
import HandS.RaiseMore
import HandS.IsInst
import HandS.EndOwn
import HandS.AnyAll
import HandS.GenOver
import HandS.Nested
import HandS.TupAny
import HandS.Deep
import HandS.Style
import HandS.Exc
import HandS.ExcOwn
import HandS.TryOnly
import HandS.WordsExc
import HandS.ExcIs
import HandS.ExcField
import HandS.ExcSuper
import HandS.ExcInit
import KE.KExcSuper
import HandS.HeadWalk
import HandS.StrMore
import HandS.Strs
import HandS.Dict
import HandS.HotCalls
import HandS.More
import HandS.ExcValue
import HandS.Star
import PyProof.ReprRoads
import KE.KEqDict
import KE.GoesEnumKw
import HandS.Replace
import KE.SortData
import KE.KDictZip
import PyProof.Rows.StrRev
import PyProof.SliceStr2
import PySem.Challenge.RW_leavechain_k75_what_is_a_plan
set_option Elab.async false
set_option linter.all false
set_option maxRecDepth 100000
set_option maxHeartbeats 4000000
namespace Lk
open PySem PySem.Spec PyProof.Rows L2 Evl

/-! ### defs as they stand behind the top -/
/-- a def that may be called by its name, with its promise -/
structure Cal (P : Program) (w : World) (K : PySem.W.Frag) (mg : Str → Option Value) (base : Heap) (k : Nat) (x : Str) (sp : Sp) : Prop where
  ex : ∃ (f : Addr) (fd : FuncData) (ps : List Str), FnOk P w K mg base CX0 k f fd ps sp ∧ mg x = some (.ref f) ∧ PySem.W.keepIn K (.ref f) = true ∧ Binds K fd ps []
/-- the def x of the text: it stands at a known place, binds its parameters by place and by all their names -/
structure At (K : PySem.W.Frag) (mg : Str → Option Value) (x : Str) (st : Stmt) (ps : List Str) : Prop where
  ex : ∃ f fd, Fun K x x st f fd ∧ mg x = some (.ref f) ∧ Binds K fd ps []
section
variable {P : Program} {w : World} {K : PySem.W.Frag} {mg : Str → Option Value} {base : Heap}
end
section
variable {P : Program} {w : World} {K : PySem.W.Frag} {mg : Str → Option Value} {base : Heap} {x : Str} {st : Stmt} {ps : List Str} {k : Nat} {sp : Sp}
theorem At.of (A : At K mg x st ps) (h : ∀ f fd, Fun K x x st f fd → FnOk P w K mg base CX0 k f fd ps sp) : Cal P w K mg base k x sp := by
  obtain ⟨f, fd, F1, g, b⟩ := A.ex
  exact ⟨⟨f, fd, ps, h f fd F1, g, F1.kp, b⟩⟩
end
section
variable {X : Cx} {k j : Nat} {x : Str} {sp : Sp} {p pos : Pos} {kws : List Keyword} {ks : List Str} {tk : TA}
theorem pe_c {e : Expr} {es : List Expr} {t : TA} (c : Cal X.prog X.w X.K X.mg X.base k x sp) (hr : Room j X.A) (hk : k ≤ j) (hg : Gl X x) (ha : PA X (e :: es) t)
    (hdb : (x == ("__debug__" : Str)) = false := by decide) (he : starEach (e :: es) X.env = (false, eval e X.env) :: starEach es X.env := by rfl) (hpl : (backTo pos (starEach es X.env)).any (·.1) = false := by rfl) :
    PE X (.Call (.Name x p) (e :: es) [] pos) (tCall sp [] E0 t) := by
  obtain ⟨f, fd, ps, F, hm, kp, b⟩ := c.ex
  exact pe_call F (hr.mono hk) hg hm kp b .nil pass0 ha hdb he hpl
end

/-! ### operators that the layer lacks -/
def CPowW (i j : Int) : Prop := 0 ≤ j ∧ (Builtin.Int.intBits i : Int) * j ≤ 2 ^ 27
section
variable {X : Cx}
theorem op_powW : OpR X (binaryOp .Pow) (rI CPowW fun i j => .int (i ^ j.toNat)) := opI fun _ _ _ _ _ _ _ hc q => pow_int hc.1 hc.2 q
theorem pow_ok {i j : Int} {a : Nat} (ha : i.natAbs < 2 ^ a) (h0 : 0 < a) (hj : 0 ≤ j) (h : (a : Int) * j ≤ 2 ^ 27) : CPowW i j := by
  refine ⟨hj, ?_⟩
  have b : Builtin.Int.intBits i ≤ i.natAbs.log2 + 1 := by
    unfold Builtin.Int.intBits
    split <;> omega
  have l := PySem.Flt.log2_lt_of h0 ha
  have e : Builtin.Int.intBits i ≤ a := by omega
  exact Int.le_trans (Int.mul_le_mul_of_nonneg_right (by omega) hj) h

end

/-! ### readings step by step: what is wanted stays folded -/
section
variable {K : PySem.W.Frag} {σ : L2.St} {H : Hp} {Q : VK} {x y v : V} {ta tb te : TE} {tt tu : TT} {QB : Bool → Hp → Prop} {QA : List V → Hp → Prop} {D : Ends} {t1 t2 : TS} {tr : TA}
end

/-! ### heaps: all is kept, or all but what stands at u -/
section
variable {K : PySem.W.Frag} {u a : Addr} {H H' : Hp} {xs : List V}
end

/-! ### the urn: three ints of which only bounds are known -/
section
variable {X : Cx} {pins : List (Addr × Obj)} {σ : L2.St} {H : Hp} {s : Shared} {u : Addr} {o : HO} {p : Int → Int → Int → Prop}
end
section
variable {K : PySem.W.Frag} {σ : L2.St} {H : Hp} {Q : VK} {x y v : V} {ta tb te : TE} {D : Ends} {tr : TA} {p : Addr} {xs : List V}
theorem small_sz {n : Nat} (h : n ≤ 1000 := by decide) : n ≤ sizeLine := Nat.le_trans h (by decide)
end
/-! ### the draws of the first laws -/
/-! ### the urn behind n draws at most -/
section
variable {p : UP} {u : Addr} {n m : Nat} {H H' : Hp}
end
/-! ### loops and comprehensions, step by step -/
section
variable {K : PySem.W.Frag} {σ : L2.St} {H : Hp} {Q : VK} {x y v : V} {ta tb te : TE} {tt : TT} {D : Ends} {tr : TA} {p : Addr} {xs : List V} {g : TG} {tb' : TS}
end

/-! ### items at a drawn place -/
section
variable {K : PySem.W.Frag} {H : Hp} {Q : VK} {p : Addr} {xs : List V} {i : Int}
end
/-! ### names -/
/-! ### zip -/
/-! ### texts of numbers and of texts -/
section
variable {X : Cx}
end
section
variable {K : PySem.W.Frag} {σ : L2.St} {H : Hp} {Q : VK} {QS : Str → Hp → Prop} {te : TE} {t : TE} {ts : List TE} {acc : Str}
end
section
variable {K : PySem.W.Frag} {σ : L2.St} {H : Hp} {Q : VK} {x : V} {p : Addr} {xs ys : List V} {R : L2.St → Hp → Prop}
end
end Lk

namespace Lk
open PySem PySem.Spec PyProof.Rows L2 Evl

/-! ### tables of code objects: they may grow, what is known of them stays -/
def TabPhi (P : Addr) (h : Heap) : Prop := ∃ ps : Array Value, h.get? P = some { cls := .none, data := .fields ps } ∧ TriplesOk ps.toList
def TabO (P : Addr) : HO := .ext (TabPhi P)
/-- the script: a list whose object is known to the sign -/
def SqX (K : PySem.W.Frag) (H : Hp) (a : Addr) (xs : List V) : Prop := Rd H a (.lst xs) ∨ ∃ its : List Value, K.lookup a = some { cls := .type "list", data := .seq its.toArray } ∧ xs.length ≤ sizeLine ∧ Vals xs its
theorem SqX.l {K : PySem.W.Frag} {H : Hp} {a : Addr} {xs : List V} (h : SqX K H a xs) : SqL K H a xs := by
  rcases h with h | ⟨its, e, z, r⟩
  · exact .inl h
  · exact .inr ⟨_, its.toArray, _, e, rfl, rfl, rfl, by rw [List.size_toArray, ← r.length]; exact z, by simpa using r⟩
section
variable {X : Cx} {pins : List (Addr × Obj)} {σ : L2.St} {H : Hp} {s : Shared} {a : Addr} {xs : List V}
end

/-! ### the law's call, from its promise -/
section
variable {P : Program} {w : World} {K : PySem.W.Frag} {mg mb : Str → Option Value}
/-- what is tracked as the law is entered: the tables, and the script where the top has not written it -/
def entryH (K : PySem.W.Frag) (ts : List Addr) (a : Addr) (o : Obj) (xs : List V) : Hp := fun b => if b ∈ ts then some (TabO b) else if b = a ∧ K.lookup a = none then some (.frz o (.lst xs)) else none
theorem entry_tab {ts : List Addr} {a : Addr} {o : Obj} {xs : List V} {b : Addr} (h : b ∈ ts) : entryH K ts a o xs b = some (TabO b) := if_pos h
theorem entry_some {ts : List Addr} {a : Addr} {o : Obj} {xs : List V} {b : Addr} {u : HO} (h : entryH K ts a o xs b = some u) : (b ∈ ts ∧ u = TabO b) ∨ (b ∉ ts ∧ b = a ∧ K.lookup a = none ∧ u = .frz o (.lst xs)) := by
  unfold entryH at h
  by_cases hb : b ∈ ts
  · rw [if_pos hb] at h
    exact .inl ⟨hb, (Option.some.inj h).symm⟩
  · rw [if_neg hb] at h
    by_cases hc : b = a ∧ K.lookup a = none
    · rw [if_pos hc] at h
      exact .inr ⟨hb, hc.1, hc.2, (Option.some.inj h).symm⟩
    · rw [if_neg hc] at h
      cases h
theorem lawX {k : Nat} {fa a : Addr} {cs : List (Addr × Addr)} {fd : FuncData} {x : Str} {sp : Sp} {s1 : Shared} {vs : List Value} {ns : List Int}
    (KX : K.In s1.heap) (hns : s1.heap.Ns mainGlobals mg) (hb : s1.heap.Ns builtinsNs mb) (hbb : ∀ x : Str, x ≠ "__name__" → mb x = bootBuiltins x) (hlim : s1.heap.NoLimit) (hg : s1.gens = #[])
    (hT : ∀ p ∈ cs, s1.heap.get? p.2 = some { cls := .none, data := .fields #[] }) (nT : ∀ p ∈ cs, K.lookup p.2 = none) (C : ∀ p ∈ cs, PySem.W.CodeHd s1.heap p.1 p.2)
    (hbm : ∃ (bm : Addr) (ob : Obj), mg "__builtins__" = some (.ref bm) ∧ bm ≠ builtinsNs ∧ s1.heap.get? bm = some ob ∧ ob.cls = .type "module" ∧ ob.dict = some builtinsNs ∧ ob.data = .plain)
    (ha : s1.heap.get? a = some { cls := .type "list", data := .seq vs.toArray }) (hi : IntsAre vs ns) (hl : ns.length ≤ sizeLine) (hr : Room k callerA)
    (F : ∀ base : Heap, K.In base → base.Ns mainGlobals mg → (∀ p ∈ cs, GxR.TabB base mg p.1 p.2) → FnOk P w K mg base CX0 k fa fd [x] sp) (hbind : ∀ (s : Shared) (u : Value), BindsTo s fd ⟨[u], []⟩ [(x, u)])
    (hsp : ∀ H : Hp, (∀ p ∈ cs, H p.2 = some (TabO p.2)) → SqX K H a (ns.map V.int) → sp [.ref a] H (fun v H' => v = .bl true ∧ ∀ p ∈ cs, H' p.2 = some (TabO p.2)) fun _ _ _ => False) :
    codeAny (model P w) callerA (.call (.ref fa) ⟨[.ref a], []⟩) (fun r s' => r = .ok (.ret (.bool true)) ∧ OldK s1.heap s'.heap ∧ s'.os = s1.os ∧ AllBare s'.gens) s1 := by
  have rv := vals_ints hi
  have lenV := hi.length
  let ts := cs.map (·.2)
  let H : Hp := entryH K ts a { cls := .type "list", data := .seq vs.toArray } (ns.map V.int)
  have inT : ∀ p ∈ cs, p.2 ∈ ts := fun p hp => List.mem_map.mpr ⟨p, hp, rfl⟩
  have isT : ∀ b : Addr, b ∈ ts → s1.heap.get? b = some { cls := .none, data := .fields #[] } ∧ K.lookup b = none := fun b hb => by
    obtain ⟨p, hp, e⟩ := List.mem_map.mp hb
    rw [← e]
    exact ⟨hT p hp, nT p hp⟩
  have aT : a ∉ ts := fun z => by
    have q := (isT a z).1
    rw [ha] at q
    have z' : Data.seq vs.toArray _ = Data.fields #[] := congrArg Obj.data (Option.some.inj q)
    cases z'
  -- what is neither a list nor an empty table is not tracked
  have free : ∀ {b : Addr} {o : Obj}, s1.heap.get? b = some o → (∀ zs n, o.data ≠ .seq zs n) → o.data ≠ .fields #[] → H b = none := fun {b o} e h1 h2 => by
    cases q : H b with
    | none => rfl
    | some u =>
      rcases entry_some q with ⟨hb, _⟩ | ⟨_, hb, _⟩
      · rw [(isT b hb).1] at e
        cases e
        exact (h2 rfl).elim
      · rw [hb, ha] at e
        cases e
        exact (h1 _ _ rfl).elim
  have freeD : ∀ {b : Addr} {o : Obj} {es : Array DictEntry} {ep : Nat}, s1.heap.get? b = some o → o.data = .dict es ep → H b = none := fun {b o es ep} e d => by
    refine free e (fun zs n z => ?_) fun z => ?_
    · rw [d] at z
      cases z
    · rw [d] at z
      cases z
  have nsK : ∀ {b : Addr} {m : Str → Option Value}, s1.heap.Ns b m → (hidT s1.heap H).Ns b m := fun {b m} ⟨o, es, ep, e, d, r⟩ => ⟨o, es, ep, hidT_get e (freeD e d), d, r⟩
  have hKb : K.In (hidT s1.heap H) := fun b o e => hidT_get (KX b o e) (by
    cases q : H b with
    | none => rfl
    | some u =>
      rcases entry_some q with ⟨hb, _⟩ | ⟨_, hb, hk, _⟩
      · rw [(isT b hb).2] at e
        cases e
      · rw [hb, hk] at e
        cases e)
  have hM : L2.Mod K mg (hidT s1.heap H) := ⟨hKb, nsK hns, ⟨mb, nsK hb, hbb⟩, let ⟨mc, h1, h2⟩ := hlim; ⟨mc, nsK h1, h2⟩⟩
  have TB : ∀ p ∈ cs, GxR.TabB (hidT s1.heap H) mg p.1 p.2 := fun p hp => by
    have hTp := hT p hp
    refine ⟨?_, ?_, fun z => ?_⟩
    · obtain ⟨o, us, file, tf, flags, tg, inF, text, tt, e1, r1, r2, r3, r⟩ := C p hp
      refine ⟨o, us, file, tf, flags, tg, inF, text, tt, hidT_get e1 (free e1 (fun zs n z => ?_) fun z => ?_), r1, r2, r3, r⟩
      · rw [r2] at z
        cases z
      · rw [r2] at z
        cases z
        simp at r3
    · obtain ⟨bm, ob, b1, b2, b3, b4, b5, b6⟩ := hbm
      refine ⟨bm, ob, b1, b2, fun q => ?_, fun q => ?_, hidT_get b3 (free b3 (fun zs n z => ?_) fun z => ?_), b4, b5, b6⟩
      · obtain ⟨o, es, ep, e, hd, _⟩ := hns
        rw [q, e] at b3
        cases b3
        rw [hd] at b6
        cases b6
      · rw [q, hTp] at b3
        cases b3
        cases b6
      · rw [b6] at z
        cases z
      · rw [b6] at z
        cases z
    · obtain ⟨o, es, ep, e, hd, _⟩ := hns
      rw [z, hTp] at e
      cases e
      cases hd
  have hok : HOk P w H s1.heap := fun b u z => by
    rcases entry_some z with ⟨hb, rfl⟩ | ⟨_, rfl, _, rfl⟩
    · have e := (isT b hb).1
      refine ⟨⟨#[], e, True.intro⟩, ⟨_, e⟩, ?_⟩
      rintro h1 h2 ⟨ps, e1, e2⟩ kp
      exact ⟨ps, kp _ e1, e2⟩
    · exact ⟨ha, by rw [List.length_map]; exact hl, vs, _, rv, ha⟩
  have hS : SqX K H a (ns.map V.int) := by
    cases hk : K.lookup a with
    | some o =>
      have e := KX a o hk
      rw [ha] at e
      cases e
      exact .inr ⟨vs, hk, by rw [List.length_map]; exact hl, rv⟩
    | none => exact .inl (.inr ⟨_, show entryH K ts a _ _ a = _ by unfold entryH; rw [if_neg aT, if_pos ⟨rfl, hk⟩]⟩)
  have e0 : Env0 P w K mg (hidT s1.heap H) callerA [] s1 H := ⟨rfl, hM, fun b o e => of_hidT e, Nat.le_of_eq (hidT_size _ _), trivial, fun b hb => absurd (show b ∈ ([] : List Addr) from hb) (by simp), hok, .of_eq hg⟩
  refine codeAny_mono ((F _ hKb (nsK hns) TB).run callerA [] s1 H ⟨[.ref a], []⟩ [.ref a] [.ref a] _ _ hr e0 (hbind s1 (.ref a)) (.cons rfl .nil) (hsp H (fun p hp => entry_tab (inT p hp)) hS)) fun r s' h => ?_
  cases r with
  | error e => exact False.elim h
  | ok fl =>
    cases fl with
    | next => exact False.elim h
    | brk => exact False.elim h
    | cont => exact False.elim h
    | ret u =>
      obtain ⟨v, H', os, bare, un, hok', r', q⟩ := h
      obtain ⟨qv, qT⟩ : v = .bl true ∧ ∀ p ∈ cs, H' p.2 = some (TabO p.2) := q
      subst qv
      obtain rfl : u = Value.bool true := r'
      have key : ∀ b o, b ∉ ts → s1.heap.get? b = some o → s'.heap.get? b = some o := fun b o nb e => by
        cases q : H b with
        | none => exact un.keep b o e q (by intro z; exact absurd (show b ∈ ([] : List Addr) from z) (by simp)) (by simp)
        | some u =>
          rcases entry_some q with ⟨z, _⟩ | ⟨_, rfl, _, rfl⟩
          · exact absurd z nb
          · obtain ⟨e1, _⟩ := hok b _ q
            obtain ⟨e2, _⟩ := hok' b _ (un.frzs b _ _ q)
            rw [e] at e1
            cases e1
            exact e2
      have grown : ∀ p ∈ cs, ∃ more : Array Value, s'.heap.get? p.2 = some { cls := .none, data := .fields more } := fun p hp => by
        obtain ⟨⟨ps, e, _⟩, _, _⟩ := hok' p.2 _ (qT p hp)
        exact ⟨ps, e⟩
      refine ⟨rfl, ⟨fun b o e => ?_, fun b o e => ?_⟩, os, bare⟩
      · by_cases hb : b ∈ ts
        · obtain ⟨p, hp, ep⟩ := List.mem_map.mp hb
          obtain ⟨more, hm⟩ := grown p hp
          have ep' : p.2 = b := ep
          rw [← ep'] at e ⊢
          rw [hT p hp] at e
          cases e
          exact .inr (.inl ⟨((C p hp).tab (hT p hp)).isCodeTable, rfl, #[], more, rfl, by rw [Array.empty_append]; exact hm⟩)
        · exact .inl (key b o hb e)
      · by_cases hb : b ∈ ts
        · obtain ⟨p, hp, ep⟩ := List.mem_map.mp hb
          obtain ⟨more, hm⟩ := grown p hp
          have ep' : p.2 = b := ep
          rw [← ep']
          exact ⟨_, hm⟩
        · exact ⟨o, key b o hb e⟩
end
/-- what is to be shown of a law's def, behind the top -/
def LawAt (l : PySem.W.OpenLaw) (w : World) (K : PySem.W.Frag) (k n : Nat) (x : Str) (mg : Str → Option Value) (h : Heap) (fa : Addr) : Prop :=
  ∃ (fd : FuncData) (cs : List (Addr × Addr)) (sp : Sp), (∀ p ∈ cs, h.get? p.2 = some { cls := .none, data := .fields #[] }) ∧ (∀ p ∈ cs, K.lookup p.2 = none) ∧ (∀ p ∈ cs, PySem.W.CodeHd h p.1 p.2) ∧ (∀ (s : Shared) (u : Value), BindsTo s fd ⟨[u], []⟩ [(x, u)]) ∧
    (∀ (H : Hp) (a : Addr) (ns : List Int), ns.length ≤ n → (∀ z ∈ ns, Builtin.Int.intBits z ≤ 1048576) → (∀ p ∈ cs, H p.2 = some (TabO p.2)) → SqX K H a (ns.map V.int) → sp [.ref a] H (fun v H' => v = .bl true ∧ ∀ p ∈ cs, H' p.2 = some (TabO p.2)) fun _ _ _ => False) ∧
    ∀ base : Heap, K.In base → base.Ns mainGlobals mg → (∀ p ∈ cs, GxR.TabB base mg p.1 p.2) → FnOk l.prog w K mg base CX0 k fa fd [x] sp
theorem walkX {l : PySem.W.OpenLaw} {n k : Nat} {q : Program} {loose : List Str} {XP : (Str → Option Value) → Heap → Prop} {YP : World → Heap → Prop} {d : DefRec} {K : Params → PySem.W.Frag} {x : Str}
    (hn : l.most = some n) (hn2 : n ≤ sizeLine) (hdf : d.params.defaults = []) (hr : Room k callerA) (hY : ∀ (w : World) (h : Heap), YP w h → (K w.params).In h)
    (F : ∀ (w : World) (mg mb : Str → Option Value) (fa : Addr) (s0 : Shared) (h : Heap), PySem.W.Ground q loose [] XP w s0 mg mb h → YP w h → (K w.params).In h → h.Ns mainGlobals mg → mg d.name = some (.ref fa) → LawAt l w (K w.params) k n x mg h fa) :
    PySem.W.WalkO q loose XP YP l.row.toRowW d [] (fun f vs => PySem.call f vs) := by
  refine Att.attach_callB hn hdf fun w s0 s1 mg mb fa o pm cd doc a vs ns G Y ho hd hcd hmg hobj hints hlen hbits hg => ?_
  have KX := hY w _ Y
  obtain ⟨fd, cs, sp, hT, nT, C, hb, hsp, hF⟩ := F w mg mb fa s0 _ G Y KX G.T.g hmg
  exact lawX KX G.T.g G.T.b G.T.builtins G.T.nolimit hg hT nT C G.T.bmain hobj hints (Nat.le_trans hlen hn2) hr hF hb (fun H hH hS => hsp H a ns hlen hbits hH hS)
section
variable {K : PySem.W.Frag} {σ : L2.St} {H : Hp} {Q : VK} {a b : Addr} {xs zs : List V} {ns : List Int}
end
end Lk

namespace Lk
open PySem PySem.Spec PyProof.Rows L2 Evl

/-! ### all, any of a generator expression over a text, a tuple, a list; the tables as TabO -/
section
variable {X : Cx} {pins : List (Addr × Obj)} {σ : L2.St} {H : Hp} {s : Shared}
theorem ext_eq {φ : Heap → Prop} {o : HO} (h : some (HO.ext φ) = some o) : o = .ext φ := (Option.some.inj h).symm
/-- the table at P has grown, all else stands -/
theorem inv_tabO {P : Addr} {ps' : Array Value} {h' : Heap} {g' : Array GenState} {d' : Drawn} {t' : Nat} (I : Inv X pins σ H s) (hP : H P = some (TabO P)) (k : ∀ b o, b ≠ P → s.heap.get? b = some o → h'.get? b = some o)
    (hm : h'.get? P = some { cls := .none, data := .fields ps' }) (ht : TriplesOk ps'.toList) (hg : AllBare g') : Inv X pins σ H { s with heap := h', gens := g', drawn := d', toks := t' } := by
  have off : ∀ b, H b ≠ some (TabO P) → b ≠ P := fun b h z => h (by rw [z]; exact hP)
  have nN : ∀ b, H b = none → b ≠ P := fun b e => off b (by rw [e]; exact nofun)
  refine I.step (ch := []) (fun b hb => absurd hb (by simp)) (fun b o _ _ _ e n => k b o (nN b n) e) (fun b o _ _ _ e n => ⟨o.slots, k b o (nN b n) e⟩) (fun b o _ _ n => n) (fun b o _ e => ?_) (fun b xs e => e) (fun b o u e => e)
    (fun b qs e => ⟨#[], by simpa using e⟩) (fun m hn => ?_) (fun b u e => ?_) hg
  · by_cases hb : b = P
    · rw [hb]
      exact ⟨_, hm⟩
    · exact ⟨o, k b o hb e⟩
  · obtain ⟨ob, es, ep, ho, r⟩ := hn
    exact ⟨ob, es, ep, k _ ob (nN _ I.free) ho, r⟩
  · by_cases hb : b = P
    · rw [hb] at e
      rw [hP] at e
      obtain rfl := ext_eq e
      rw [hb]
      refine ⟨⟨ps', hm, ht⟩, ⟨_, hm⟩, ?_⟩
      rintro h1 h2 ⟨qs, e1, e2⟩ kp
      exact ⟨qs, kp _ e1, e2⟩
    · refine (I.hok b u e).stay (fun d v hd q => k d v ?_ q) (fun d q => q) fun d xs q => q
      rcases hd with z | z
      · rw [z]
        exact hb
      · exact off d (by rw [z]; exact nofun)
/-- the iterator of a walked thing, its turns -/
def Iters (X : Cx) (P : Addr) (u : Value) (s1 : Shared) (n : Nat) (Pf : Nat → Value → Prop) : Prop :=
  ∀ Q : Value → Shared → Prop, (∀ (o : Obj) (fp : List Addr) (St : Nat → Heap → Prop), (∀ A' : Around, A'.handled = none → Walks X.prog X.w A' s1.heap.objs.size fp [s1.heap.objs.size] n Pf St) → St 0 (s1.heap.push o) →
    (∀ b ∈ fp, b ≤ s1.heap.objs.size ∧ b ≠ P) → Q (.ref s1.heap.objs.size) { s1 with heap := s1.heap.push o }) → wpAny (model X.prog X.w) X.A (pyIter u) Q X.xe s1
/-- the generator's own environment -/
structure GEnv (X : Cx) (scope : Scope) (cenv : Env) : Prop where
  sc : cenv.scope = scope
  gl : cenv.globals = X.env.globals
  bi : cenv.builtins = builtinsNs
  ce : cenv.cells = cloFrom X.env.cells scope.names []
/-- the element: a test of the walked items; s1: as the generator was made -/
def EltOk (X : Cx) (scope : Scope) (x : Str) (elt : Expr) (P : Addr) (s1 : Shared) (Pf : Nat → Value → Prop) (pb : Nat → Bool) : Prop :=
  ∀ (cenv : Env) (A' : Around) (E' : Value → Shared → Prop) (i : Nat) (v : Value) (s₂ : Shared) (m₂ : Str → Option Value), GEnv X scope cenv → A'.handled = none → A'.depth ≤ X.A.depth + 1 → A'.units ≤ X.A.units + 8 → Pf i v →
    s₂.heap.Ns cenv.locals m₂ → m₂ x = some v → (∀ b o, b ≠ P → s1.heap.get? b = some o → s₂.heap.get? b = some o) → wpAny (model X.prog X.w) A' (eval elt cenv) (fun y s₃ => y = .bool (pb i) ∧ Keeps s₂ s₃) E' s₂
def ItOk (X : Cx) (scope : Scope) (x : Str) (elt : Expr) (P : Addr) (v : V) (σ : L2.St) (H1 : Hp) (n : Nat) (pb : Nat → Bool) : Prop :=
  ∀ (pins : List (Addr × Obj)) (s : Shared) (u : Value), Inv X pins σ H1 s → RelV v u → ∃ Pf, Iters X P u s n Pf ∧ EltOk X scope x elt P s Pf pb
/-- the generator, ready to be walked -/
def Rdy (X : Cx) (pins : List (Addr × Obj)) (σ : L2.St) (H1 : Hp) (n : Nat) (pb : Nat → Bool) (g : Addr) (s5 : Shared) : Prop :=
  ∃ (fp wr : List Addr) (G : Array GenState → Array GenState → Prop) (F : Nat → Value → Prop) (St : Nat → Shared → Prop),
    WalksS X.prog X.w X.A.in1 g fp wr G n F St ∧ St 0 s5 ∧ TruthOf X.prog X.w X.A.in1 F pb ∧ ∀ s', Moved wr G s5 s' → Inv X pins σ H1 s'
theorem gen_tab {c P : Addr} {elt iter : Expr} {x : Str} {px gpos : Pos} {scope : Scope} {te : TE} {k : Nat} {Q' : Value → Shared → Prop} {R : Nat → (Nat → Bool) → Hp → Prop}
    (hr : Room k X.A) (TB : GxR.TabB X.base X.mg c P) (hcode : X.env.code = .ref c) (S : GxR.GenS X.env scope x) (hi : PE X iter te) (hs : ∀ v, genFold iter X.env v = pure v) (I : Inv X pins σ H s)
    (h : te σ H fun v H1 => H1 P = some (TabO P) ∧ ∃ n pb, ItOk X scope x elt P v σ H1 n pb ∧ R n pb H1)
    (hQ : ∀ n pb H1 g s5, R n pb H1 → Rdy X pins σ H1 n pb g s5 → Q' (.ref g) s5) :
    wpAny (model X.prog X.w) X.A (eval (.GeneratorExp elt [⟨.Name x px, iter, [], 0⟩] scope gpos) X.env) Q' X.xe s := by
  refine wpAny_GeneratorExp_walksQD hr.hd S.co (closure_ok S.free) S.cell S.dot S.loc S.kind (by have := hr.dp; omega) ?_ hs
  refine thn (hi.run pins s σ H _ I h) fun xv s1 ⟨v, H1, I1, r1, q1⟩ => ?_
  obtain ⟨hP, n, pb, it, rr⟩ := q1
  obtain ⟨Pf, hit, hel⟩ := it pins s1 xv I1 r1
  refine hit _ fun o fp St W hst hfp => ?_
  obtain ⟨⟨ps, hPs, ht⟩, _, _⟩ := I1.hok P _ hP
  have hPlt : P < s1.heap.objs.size := Heap.lt_size hPs
  have hP2 : (s1.heap.push o).get? P = some { cls := .none, data := .fields ps } := Heap.get?_push_of_some _ hPs
  have cd : PySem.W.CodeHd (s1.heap.push o) c P := TB.code.keeps fun b u e => Heap.get?_push_of_some _ (I1.bk b u e)
  have lim2 : (s1.heap.push o).NoLimit := I1.nolimit.push o
  have sz2 : (s1.heap.push o).objs.size = s1.heap.objs.size + 1 := Heap.size_push ..
  have cont : ∀ (code : Value) (h3 : Heap) (tk : Nat) (ps' : Array Value), Heap.ExtBut P (s1.heap.push o) h3 → (s1.heap.push o).objs.size ≤ h3.objs.size → h3.get? P = some { cls := .none, data := .fields ps' } → TriplesOk ps'.toList →
      wpAny (model X.prog X.w) X.A (builtinsFor X.env.globals X.env.builtins) (fun bi s₄ =>
        ∃ Ia fp wr n₀ Pf St₀ pz F, Value.ref s1.heap.objs.size = .ref Ia ∧ (∀ A' : Around, A'.handled = none → Walks X.prog X.w A' Ia fp wr n₀ Pf St₀) ∧ St₀ 0 s₄.heap ∧ (∀ b ∈ fp, b < s₄.heap.objs.size) ∧ s₄.heap.NoLimit ∧ cStatics ∉ wr ∧
          (∀ href : Heap, (∀ b o, s₄.heap.get? b = some o → href.get? b = some o) →
            QuietGenD X.prog X.w (genEnv scope (cloFrom X.env.cells scope.names []) s₄.heap.objs.size code bi X.env) x [] elt (List.range s₄.heap.objs.size) wr Pf pz F href (X.A.depth + 1) (X.A.units + 8)) ∧
          (∀ a h₅ tk gs, gs.bare = true → s₄.heap.objs.size < a → h₅.objs.size = a + 1 → (∀ b o, s₄.heap.get? b = some o → h₅.get? b = some o) →
            WalksS X.prog X.w X.A.in4 a (a :: s₄.heap.objs.size :: List.range s₄.heap.objs.size) (s₄.heap.objs.size :: wr) (GenOnlyQ s₄.gens.size) (passing pz n₀ 0).length
              (fun j y => ∃ i, (passing pz n₀ 0)[j]? = some i ∧ F i y) (GenAt X.prog X.w X.A.in4 a s₄.gens.size s₄.heap.objs.size (List.range s₄.heap.objs.size) wr pz n₀ F) →
            GenAt X.prog X.w X.A.in4 a s₄.gens.size s₄.heap.objs.size (List.range s₄.heap.objs.size) wr pz n₀ F 0 { s₄ with gens := s₄.gens.push gs, toks := tk, heap := h₅ } →
            Q' (.ref a) { s₄ with gens := s₄.gens.push gs, toks := tk, heap := h₅ })) X.xe { s1 with heap := h3, toks := tk } := by
    intro code h3 tk ps' hx hsz hP3 ht3
    obtain ⟨bm, ob, e1, e2, e3, e4, e5, e6, e7, e8⟩ := TB.bm
    have hcP : cStatics ≠ P := fun e => by
      obtain ⟨_, ⟨o', es, ep, ho, hd, _⟩, _⟩ := I1.nolimit
      rw [e, hPs] at ho
      cases ho
      cases hd
    have hcl : cStatics < s1.heap.objs.size := let ⟨_, hns, _⟩ := I1.nolimit; hns.lt
    have keep3 : ∀ b u, b ≠ P → s1.heap.get? b = some u → h3.get? b = some u := fun b u hb e => hx b u hb (Heap.get?_push_of_some _ e)
    have nIt : ∀ b u, s1.heap.get? b = some u → b ≠ s1.heap.objs.size := fun b u e => Nat.ne_of_lt (Heap.lt_size e)
    refine wpAny_builtinsFor (m := X.mg) (by rw [I1.ok.glob]; exact ((I1.mod.glob.keeps I1.bk).push o).extBut hx TB.gP) e1 e2 (keep3 _ _ e4 (I1.bk _ _ e5)) e6 e7 e8 ?_
    refine ⟨s1.heap.objs.size, fp, [s1.heap.objs.size], n, Pf, St, (fun _ => true), (fun i y => y = .bool (pb i)), rfl, W, ?_, ?_, lim2.extBut hx hcP, ?_, ?_, ?_⟩
    · exact (W X.A hr.hd).frame _ _ _ hst fun b hb u e => hx b u (hfp b hb).2 e
    · exact fun b hb => Nat.lt_of_lt_of_le (Nat.lt_succ_of_le (hfp b hb).1) (show s1.heap.objs.size + 1 ≤ h3.objs.size by omega)
    · intro z
      rcases List.mem_cons.mp z with z | z
      · exact Nat.ne_of_lt hcl z
      · cases z
    · intro href hhref
      refine ⟨fun A' E' i v s₂ m₂ hA _ _ hPv hn hm hk => ?_, fun A' E' i v s₂ m₂ hA hD hU hPv hp hn hm hk => ?_⟩
      · simp only [List.forIn_nil]
        exact wpAny_pure ⟨rfl, GxR.keeps_refl _⟩
      · refine wpAny_mono (hel _ A' E' i v s₂ m₂ ⟨rfl, rfl, rfl, rfl⟩ hA hD hU hPv hn hm fun b u hb e => hk b ?_ ?_ u (hhref b u (keep3 b u hb e))) (fun y s3 r => r) fun _ _ e => e
        · exact List.mem_range.mpr (Heap.lt_size (keep3 b u hb e))
        · intro z
          rcases List.mem_cons.mp z with z | z
          · exact nIt b u e z
          · cases z
    · intro g h5 tk5 gs hgb hag hsz5 hk5 W5 hat
      simp only [GxR.passing_true, List.length_range] at W5
      refine hQ n pb H1 g _ rr ⟨_, _, _, _, _, W5.in4_1, hat, ?_, fun s' hm => ?_⟩
      · intro j y sj Qj Ej hy hQj
        obtain ⟨i, hij, rfl⟩ := hy
        obtain ⟨hj, ej⟩ := List.getElem?_eq_some_iff.mp hij
        rw [List.getElem_range] at ej
        subst ej
        exact wpAny_truthy_bool hQj
      · have nwr : ∀ b u, s1.heap.get? b = some u → b ∉ h3.objs.size :: [s1.heap.objs.size] := fun b u e hb => by
          have hl := Heap.lt_size e
          rcases List.mem_cons.mp hb with z | z
          · rw [z] at hl
            have h9 : (h3.objs.size : Nat) < s1.heap.objs.size := hl
            omega
          · rcases List.mem_cons.mp z with z | z
            · exact nIt b u e z
            · cases z
        have J := inv_tabO (h' := s'.heap) (g' := s'.gens) (d' := s'.drawn) (t' := s'.toks) I1 hP (fun b u hb e => hm.heap b u (nwr b u e) (hk5 b u (keep3 b u hb e))) (hm.heap P _ (nwr P _ hPs) (hk5 P _ hP3)) ht3
          (AllBare.movedS (I1.bare.push hgb) hm)
        rw [GxR.sh_eta s1 s' hm.os] at J
        exact J
  refine ⟨lim2, ?_⟩
  cases hf : codeAmong gpos ps.toList with
  | none =>
    refine wpAny_genexprCodeX hcode (cd.code hP2 ht) (cd.tab hP2) hf fun c' h' tk hx hge hlt hco' _ htab' _ => ?_
    obtain ⟨o1, vs, f1, tf, fl, tg, inF, tx, tt, op, _, _, _, _, _, _, _, _, _, htr, _⟩ := hco'
    exact cont _ h' tk _ hx (Nat.le_trans hge (Nat.le_of_lt hlt)) htab'.2 htr
  | some cv =>
    refine wpAny_genexprCode_hit hcode (cd.code hP2 ht) hf ?_
    exact cont cv (s1.heap.push o) s1.toks ps (Heap.ExtBut.refl _ _) (Nat.le_refl _) hP2 ht

/-- all(test for x in e), any(test for x in e) -/
def tAllG (X : Cx) (P : Addr) (scope : Scope) (x : Str) (elt : Expr) (te : TE) : TE := fun σ H Q => te σ H fun v H1 => H1 P = some (TabO P) ∧ ∃ n pb, ItOk X scope x elt P v σ H1 n pb ∧ Q (.bl ((List.range n).all pb)) H1
theorem pe_allG {c P : Addr} {elt iter : Expr} {x : Str} {px p pos gpos : Pos} {scope : Scope} {te : TE} {k : Nat} (TB : GxR.TabB X.base X.mg c P) (hr : Room k X.A) (hg : Gl X "all") (hm : X.mg "all" = none) (hcode : X.env.code = .ref c) (S : GxR.GenS X.env scope x) (hi : PE X iter te)
    (hs : ∀ v, genFold iter X.env v = pure v)
    (he : starEach [.GeneratorExp elt [⟨.Name x px, iter, [], 0⟩] scope gpos] X.env = (false, eval (.GeneratorExp elt [⟨.Name x px, iter, [], 0⟩] scope gpos) X.env) :: starEach [] X.env := by rfl) :
    PE X (.Call (.Name "all" p) [.GeneratorExp elt [⟨.Name x px, iter, [], 0⟩] scope gpos] [] pos) (tAllG X P scope x elt te) := by
  refine ⟨fun pins s σ H Q I h => ?_⟩
  refine wpAny_Call_Name_kw (ld_blt I hg hm (show bootBuiltins "all" = some (.builtin "all") by first | decide +kernel | kernel_rfl) ?_)
  refine PyProof.Rows.callWith_builtin1 ?_ he (by rfl)
  rw [he]
  show wpAny _ _ (spliced ((false, eval (.GeneratorExp elt [⟨.Name x px, iter, [], 0⟩] scope gpos) X.env) :: backTo pos (starEach [] X.env))) _ _ s
  refine Calls.spliced_cons (gen_tab (R := fun n pb H1 => Q (.bl ((List.range n).all pb)) H1) hr TB hcode S hi hs I h fun n pb H1 g s5 hR hG => ?_)
  obtain ⟨fp, wr, G, F, St, W, hst, htr, hI⟩ := hG
  refine Calls.spliced_nil ?_
  exact call_all_walkS (W.self 0 _ _ _ hst ⟨g, fp, wr, G, _, F, St, _, rfl, W, hst, htr, fun s' hmv => ⟨.bl _, H1, hI s' hmv, rfl, hR⟩⟩)
end
end Lk

namespace Lk
open PySem PySem.Spec PyProof.Rows L2 Evl
section
variable {X : Cx} {pins : List (Addr × Obj)} {σ : L2.St} {H : Hp} {s1 s : Shared} {P : Addr} {Pf : Nat → Value → Prop} {n : Nat}
theorem tab_at (I : Inv X pins σ H s1) (hP : H P = some (TabO P)) : ∃ ps : Array Value, s1.heap.get? P = some { cls := .none, data := .fields ps } := by
  obtain ⟨⟨ps, e, _⟩, _, _⟩ := I.hok P _ hP
  exact ⟨ps, e⟩
theorem tab_lt (I : Inv X pins σ H s1) (hP : H P = some (TabO P)) : P < s1.heap.objs.size := let ⟨_, e⟩ := tab_at I hP; Heap.lt_size e
theorem tab_base (I : Inv X pins σ H s1) (hP : H P = some (TabO P)) {b : Addr} {o : Obj} (e : X.base.get? b = some o) : b ≠ P := fun z => by
  have q := (I.bs b o e).2
  rw [z, hP] at q
  cases q
theorem it_str {a : Str} {t : Tok} (hP : P < s1.heap.objs.size) : Iters X P (.str a t) s1 a.cps.size (SignAt a) := fun Q h => by
  refine wpAny_pyIter_str fun o St W hst => h o _ St W hst fun b hb => ?_
  rcases List.mem_cons.mp hb with z | z
  · rw [z]
    exact ⟨Nat.le_refl _, Nat.ne_of_gt hP⟩
  · cases z
theorem it_tup {a : Addr} {its : Array Value} (hP : P < s1.heap.objs.size) (ha : s1.heap.IsTuple a its) (hne : a ≠ P) : Iters X P (.ref a) s1 its.size (fun i v => its[i]? = some v) := fun Q h => by
  have hlt : a < s1.heap.objs.size := let ⟨_, e, _⟩ := ha; Heap.lt_size e
  refine wpAny_pyIter_tuple ha (h _ _ (fun i hp => hp.IsTupleIter s1.heap.objs.size a i ∧ hp.IsTuple a its) (fun A' hA => Walks.tuple hA _ _ (Nat.ne_of_lt hlt) _) ⟨⟨_, Heap.get?_push_size _ rfl, rfl, rfl⟩, ha.push _⟩ fun b hb => ?_)
  rcases List.mem_cons.mp hb with z | z
  · rw [z]
    exact ⟨Nat.le_refl _, Nat.ne_of_gt hP⟩
  · rcases List.mem_cons.mp z with z | z
    · rw [z]
      exact ⟨Nat.le_of_lt hlt, hne⟩
    · cases z
/-! ### names in the generator's own frame -/
section
variable {scope : Scope} {cenv : Env} {A' : Around} {E' : Value → Shared → Prop} {s₂ : Shared} {m₂ : Str → Option Value} {x : Str} {v u : Value} {p : Pos} {Q : Value → Shared → Prop}
theorem ge_own (GE : GEnv X scope cenv) (hk : scope.kind = .function) (hl : scope.names.lookup x = some .local) (hn : s₂.heap.Ns cenv.locals m₂) (hm : m₂ x = some v) (hd : (x == ("__debug__" : Str)) = false) (h : Q v s₂) : wpAny (model X.prog X.w) A' (eval (.Name x p) cenv) Q E' s₂ :=
  wpAny_Name (wpAny_loadName_local (by rw [GE.sc]; exact hk) (show cenv.scope.names.lookup x = some .local by rw [GE.sc]; exact hl) hn hm h) hd
theorem ge_kb (I : Inv X pins σ H s1) (hP : H P = some (TabO P)) (kp : ∀ b o, b ≠ P → s1.heap.get? b = some o → s₂.heap.get? b = some o) : ∀ b o, X.base.get? b = some o → s₂.heap.get? b = some o := fun b o e => kp b o (tab_base I hP e) (I.bk b o e)
theorem ge_blt (I : Inv X pins σ H s1) (kb : ∀ b o, X.base.get? b = some o → s₂.heap.get? b = some o) (GE : GEnv X scope cenv) (hk : scope.kind = .function) (hl : scope.names.lookup x = some .globalImplicit)
    (hm : X.mg x = none) (hv : bootBuiltins x = some u) (hn : x ≠ "__name__") (hd : (x == ("__debug__" : Str)) = false) (h : Q u s₂) : wpAny (model X.prog X.w) A' (eval (.Name x p) cenv) Q E' s₂ := by
  obtain ⟨mb, h1, h2⟩ := I.mod.blt
  exact Calls.Name_function_global (by rw [GE.sc]; exact hk) (show cenv.scope.names.lookup x = _ by rw [GE.sc]; exact hl) (Calls.loadGlobal_builtin (by rw [GE.gl, I.ok.glob]; exact I.mod.glob.keeps kb) hm (by rw [GE.bi]; exact h1.keeps kb) ((h2 x hn).trans hv) h) hd
end
/-! ### 'a' <= sign <= 'z' -/
def btw (lo hi : Str) (c : Nat) : Bool := !decide ([c] < lo.cps.toList) && !decide (hi.cps.toList < [c])
theorem elt_btw {scope : Scope} {x : Str} {lo hi a : Str} {j1 j2 : Nat} {p1 p2 p3 p4 : Pos} (hk : scope.kind = .function) (hl : scope.names.lookup x = some .local) (hd : (x == ("__debug__" : Str)) = false) :
    EltOk X scope x (.Compare (.Constant (.str lo) j1 p1) [.LtE, .LtE] [.Name x p2, .Constant (.str hi) j2 p3] p4) P s1 (SignAt a) (GxR.trF (btw lo hi) a.cps.toList) := by
  intro cenv A' E' i v s₂ m₂ GE hA hD hU hv hn hm kp
  obtain ⟨c, u, hc, rfl⟩ := hv
  have hc2 : a.cps.toList[i]? = some c := by rw [Array.getElem?_toList]; exact hc
  rw [GxR.trF_some hc2]
  refine Compare_chain (Calls.Constant_str (chain_link (ge_own GE hk hl hn hm hd (PySem.P.le_str (wpAny_truthy_bool ?_)))))
  show if (!decide ([c] < lo.cps.toList)) = true then _ else _
  cases h : !decide ([c] < lo.cps.toList) with
  | false => exact ⟨by unfold btw; rw [h]; rfl, GxR.keeps_tok _ _⟩
  | true =>
    refine chain_last (Calls.Constant_str (PySem.P.le_str ⟨?_, ?_⟩))
    · unfold btw
      rw [h]
      rfl
    · exact ⟨_, _, rfl, fun _ _ e => e⟩
theorem ok_signs {scope : Scope} {x : Str} {lo hi a : Str} {j1 j2 : Nat} {p1 p2 p3 p4 : Pos} (hk : scope.kind = .function) (hl : scope.names.lookup x = some .local) (hP : H P = some (TabO P)) (hd : (x == ("__debug__" : Str)) = false := by decide) :
    ItOk X scope x (.Compare (.Constant (.str lo) j1 p1) [.LtE, .LtE] [.Name x p2, .Constant (.str hi) j2 p3] p4) P (.str a) σ H a.cps.size (GxR.trF (btw lo hi) a.cps.toList) := fun pins s u I r => by
  obtain ⟨t, rfl⟩ := _root_.id r
  exact ⟨_, it_str (tab_lt I hP), elt_btw hk hl hd⟩
/-! ### isinstance(x, str) of texts -/
theorem tup_ne {a : Addr} {xs : List V} (I : Inv X pins σ H s1) (hP : H P = some (TabO P)) (ha : SqT X.K H a xs) : a ≠ P := fun z => by
  obtain ⟨ps, e⟩ := tab_at I hP
  obtain ⟨its, r, ⟨o, h1, h2, n, h3⟩, _⟩ := I.tuple ha
  rw [z, e] at h1
  cases h1
  cases h2
end
end Lk

namespace Lk
open PySem PySem.Spec PyProof.Rows L2 Evl
/-! ### defs that hold a generator expression: their code object is named -/
structure AtC (K : PySem.W.Frag) (mg : Str → Option Value) (x : Str) (st : Stmt) (ps : List Str) (c : Addr) : Prop where
  ex : ∃ f fd, Fun K x x st f fd ∧ mg x = some (.ref f) ∧ Binds K fd ps [] ∧ fd.code = .ref c
section
variable {P : Program} {w : World} {K : PySem.W.Frag} {mg : Str → Option Value} {base : Heap} {x : Str} {st : Stmt} {ps : List Str} {k : Nat} {sp : Sp} {c : Addr}
theorem AtC.of (A : AtC K mg x st ps c) (h : ∀ f fd, Fun K x x st f fd → fd.code = .ref c → FnOk P w K mg base CX0 k f fd ps sp) : Cal P w K mg base k x sp := by
  obtain ⟨f, fd, F1, g, b, e⟩ := A.ex
  exact ⟨⟨f, fd, ps, h f fd F1 e, g, F1.kp, b⟩⟩
end
/-- a look at a generator expression's scope: no name of its own in a cell, none captured -/
def gsB (sc : Scope) (x : Str) : Bool := sc.kind == .function && (!sc.isCoroutine && (sc.names.all (fun y => y.2 != .cell && y.2 != .free) && (sc.names.lookup (".0" : Str) == some NameKind.local && sc.names.lookup x == some NameKind.local)))
theorem genS0 {env : Env} {sc : Scope} {x : Str} (h : gsB sc x = true) : GxR.GenS env sc x := by
  unfold gsB at h
  simp only [Bool.and_eq_true, beq_iff_eq, Bool.not_eq_true', List.all_eq_true, bne_iff_ne, ne_eq] at h
  obtain ⟨h1, h2, h3, h4, h5⟩ := h
  exact ⟨h1, h2, fun y hy => (h3 y hy).1, h4, h5, fun y hy e => absurd e (h3 y hy).2⟩
/-- .. with captured names: they are in the def's cells -/
def gsF (sc : Scope) (x : Str) (fr : List Str) : Bool := sc.kind == .function && (!sc.isCoroutine && (sc.names.all (fun y => y.2 != .cell && (y.2 != .free || fr.contains y.1)) && (sc.names.lookup (".0" : Str) == some NameKind.local && sc.names.lookup x == some NameKind.local)))
theorem genSF {env : Env} {sc : Scope} {x : Str} {fr : List Str} (h : gsF sc x fr = true) (hf : ∀ y ∈ fr, ∃ c, env.cells.lookup y = some c) : GxR.GenS env sc x := by
  unfold gsF at h
  simp only [Bool.and_eq_true, Bool.or_eq_true, beq_iff_eq, Bool.not_eq_true', List.all_eq_true, bne_iff_ne, ne_eq, List.contains_iff_mem] at h
  obtain ⟨h1, h2, h3, h4, h5⟩ := h
  exact ⟨h1, h2, fun y hy => (h3 y hy).1, h4, h5, fun y hy e => hf y.1 ((h3 y hy).2.resolve_left fun z => z e)⟩
/-! ### the tables, as the top leaves them -/
def Tabs (q : Program) (K : PySem.W.Frag) (mg : Str → Option Value) (h : Heap) : Prop := ∀ (name : Str) (f c P : Addr) (oc e : Value) (od dd : Option Addr) (fd : FuncData) (vs : Array Value) (sl sl' : Array (Option Value)), ((recsOf q).any fun d => d.name == name) = true →
  mg name = some (.ref f) → K.lookup f = some ⟨oc, od, .func fd, sl⟩ → fd.code = .ref c → K.lookup c = some ⟨e, dd, .fields vs, sl'⟩ → vs[11]? = some (.ref P) → h.get? P = some { cls := .none, data := .fields #[] } ∧ PySem.W.CodeHd h c P
theorem tabs_of {q : Program} {loose : List Str} {R : PySem.W.WRecords} {XP : (Str → Option Value) → Heap → Prop} {w : World} {s₀ : Shared} {mg mb : Str → Option Value} {h : Heap} {K : PySem.W.Frag} (G : PySem.W.Ground q loose R XP w s₀ mg mb h) (KX : K.In h) : Tabs q K mg h := by
  intro name f c P oc e od dd fd vs sl sl' hrec hmg k1 k2 k3 k4
  obtain ⟨dL, hm, hn1⟩ := List.any_eq_true.mp hrec
  have hn2 : dL.name = name := beq_iff_eq.mp hn1
  obtain ⟨a', o', fd', c', P', h1, h2, h3, h4, h5, h6⟩ := G.T.tab dL hm
  rw [hn2, hmg] at h1
  cases h1
  have g1 := KX _ _ k1
  rw [g1] at h2
  cases h2
  cases h3
  rw [k2] at h4
  cases h4
  have h6' := h6
  obtain ⟨⟨oc', vc, e1, _, e3, e4⟩, hP⟩ := h6
  have g2 := KX _ _ k3
  rw [g2] at e1
  cases e1
  cases e3
  rw [k4] at e4
  cases e4
  exact ⟨hP, PySem.W.CodeHd.of h5 h6'⟩
/-! ### data of any depth in a tuple -/
def rInDT (K : PySem.W.Frag) : R2 := fun x y H Q => ∃ d ds, Dp K H x d ∧ Dp K H y (.tuple ds) ∧ SeqAt.shaped d = true ∧ SeqAt.shaped (.tuple ds) = true ∧ Q (.bl (ds.any fun z => PyData.eqv z d)) H
theorem op_inDT {X : Cx} (hu : X.A.units + 65 < cLine) : OpR X (compareOp .In) (rInDT X.K) := by
  intro pins s σ H x y v u Q I rx ry h
  obtain ⟨d, ds, hd, he, sd, se, q⟩ := h
  obtain ⟨as, r1⟩ := Dp.reads I d x v hd rx
  obtain ⟨bs, r2⟩ := Dp.reads I (.tuple ds) y u he ry
  exact SeqAt.in_tuple_reads r2 r1 (SeqAt.canLay_of_shaped se) (SeqAt.canLay_of_shaped sd) (room_in_shaped sd hu) ⟨.bl _, H, I, rfl, q⟩
/-! ### kinds of a thing -/
end Lk
namespace L2
open PySem
theorem Room.u65 {k : Nat} {A : Around} (r : Room k A) : A.units + 65 < cLine := by have := r.un; omega
end L2
namespace Lk
open PySem PySem.Spec PyProof.Rows L2 Evl
end Lk

namespace Lk
open PySem PySem.Spec PyProof.Rows L2 Evl
section
variable {X : Cx} {pins : List (Addr × Obj)} {σ : L2.St} {H : Hp} {s1 s : Shared} {P : Addr}
theorem all_ix {α : Type} (f : α → Bool) (ws : List α) : (List.range ws.length).all (fun i => (ws[i]?.map f).getD false) = ws.all f := by
  rw [Bool.eq_iff_iff, List.all_eq_true, List.all_eq_true]
  constructor
  · intro h b hb
    obtain ⟨j, hj, e⟩ := List.getElem_of_mem hb
    have q := h j (List.mem_range.mpr hj)
    rw [List.getElem?_eq_getElem hj, e] at q
    exact q
  · intro h j hj
    have hj' := List.mem_range.mp hj
    rw [List.getElem?_eq_getElem hj']
    exact h _ (List.getElem_mem hj')
end
/-! ### a call by two keywords, the second parameter first -/
section
variable {X : Cx} {k j : Nat} {x a b : Str} {sp : Sp} {p pos : Pos} {kws : List Keyword} {tk : TA}
end
/-! ### in a comprehension's block: K by name -/
section
variable {X : Cx} {K : PySem.W.Frag}
end
/-! ### comprehensions over a tuple, a list: a test and an item that leave the heap -/
end Lk

namespace Lk
open PySem PySem.Spec PyProof.Rows L2 Evl GenW NdefX

/-! ### all, any of a generator expression whose elements may call defs -/
/-- the generator's slots: its iterator, its name, what it captured -/
def gS (σ : L2.St) (cs : List Nat) : L2.St := none :: none :: cs.map (slotAt σ)
def gN (N : List Str) (x : Str) (cs : List Nat) : List Str := ".0" :: x :: cs.map fun j => N.getD j ""
/-- the generator's frame, for its element -/
def gx (X : Cx) (s4 : Shared) (H1 : Hp) (cenv : Env) (A' : Around) (N' : List Str) (fp : List Addr) (pn : List (Addr × Obj)) : Cx where
  prog := X.prog
  w := X.w
  K := X.K
  mg := X.mg
  base := X.base
  A := A'
  N := N'
  s_0 := s4
  H_0 := H1
  env := cenv
  outer := X.stack
  stack := cenv :: X.stack
  ex := fp
  fn := fun _ => false
  calm := true
  pn := pn
  xe := fun _ _ => False
section
variable {X : Cx} {pins : List (Addr × Obj)} {σ : L2.St} {H H1 : Hp} {s s' s4 s5 : Shared} {cenv : Env} {A' : Around} {x : Str} {cs : List Nat} {fp : List Addr} {scope : Scope} {a : Addr} {go : Obj} {m0 : Str → Option Value}
/-- a captured name -/
def CapOk (X : Cx) (scope : Scope) (cs : List Nat) : Prop := ∀ j ∈ cs, ∃ y, X.N[j]? = some y ∧ scope.names.lookup y = some .free ∧ (X.env.kindOf y = some .cell ∨ X.env.kindOf y = some .free)
theorem inv_gens (I : Inv X pins σ H s) (hh : s'.heap = s.heap) (ho : s'.os = s.os) (hg : AllBare s'.gens) : Inv X pins σ H s' :=
  I.call' (ch := []) ho (Un.kept fun b u e => by rw [hh]; exact e) (I.hok.kept fun b u e => by rw [hh]; exact e) hg fun b hb => by cases hb
theorem inv_gx (I : Inv X pins σ H1 s4) (S : GxR.GenS X.env scope x) (hcs : CapOk X scope cs) (hf : ∀ b ∈ fp, FpOk X pins H1 b) (hfl : ∀ b ∈ fp, b < s4.heap.objs.size)
    (e1 : cenv.scope = scope) (e2 : cenv.globals = X.env.globals) (e3 : cenv.builtins = builtinsNs) (e4 : cenv.cells = cloFrom X.env.cells scope.names []) (e5 : cenv.locals = s4.heap.objs.size) (e6 : cenv.frame = some cenv.locals)
    (hA : A'.handled = none) (hfr : A'.frames = some (cenv :: X.stack)) (os : s5.os = s4.os) (bare : AllBare s5.gens) (kp : ∀ b o, s4.heap.get? b = some o → s5.heap.get? b = some o) (hns : s5.heap.Ns cenv.locals m0)
    (ha : s5.heap.get? a = some go) (hl : s4.heap.objs.size < a) (hgo : ∀ v, go.data ≠ .cell v) : Inv (gx X s4 H1 cenv A' (gN X.N x cs) fp [(a, go)]) [] (gS σ cs) H1 s5 := by
  have hsub : ∀ y c, cenv.cells.lookup y = some c → X.env.cells.lookup y = some c := fun y c e => by
    rw [e4] at e
    exact clo_cm S.free e
  have hfree : ∀ y, cenv.kindOf y = some .cell ∨ cenv.kindOf y = some .free → (y, NameKind.free) ∈ scope.names := fun y h => by
    have h : scope.names.lookup y = some .cell ∨ scope.names.lookup y = some .free := by rw [← e1]; exact h
    rcases h with h | h
    · exact absurd rfl (S.cell _ (PySem.mem_of_lookup h))
    · exact PySem.mem_of_lookup h
  have old : ∀ y c, cenv.cells.lookup y = some c → ∃ v o, s4.heap.get? c = some o ∧ o.data = .cell v := fun y c e => by
    obtain ⟨v, o, ho, hd⟩ := I.cell y c (hsub y c e)
    exact ⟨v, o, ho, hd⟩
  have notst : ∀ b, (b ≠ X.env.locals ∧ b ∉ X.fs) → b ∉ frs X.stack := fun b ⟨h1, h2⟩ hm => (List.mem_cons.mp (I.stkSub b hm)).elim h1 h2
  refine ⟨⟨I.ok.mod, (by show cenv.scope.kind = _; rw [e1]; exact S.kind), (by show cenv.globals = _; rw [e2]; exact I.ok.glob), e3, Nat.le_of_eq e5.symm, (fun y z c h1 h2 => I.ok.inj y z c (hsub y c h1) (hsub z c h2)), (fun y hy => ?_), (fun _ _ h => nomatch h), (fun _ => hA), hfr, .inr ⟨rfl, e6⟩,
    fun b hb => ⟨?_, fun y c e z => ?_⟩, I.bs, Nat.le_trans I.ok.bsz I.sz, fun b o e hb => ?_, fun b hb => notst b ⟨(hf b hb).2.1, (hf b hb).2.2.1⟩, I.stack, I.stkFree⟩, os, bare, Un.kept kp, ⟨m0, hns, fun i y v h1 h2 h3 => ?_⟩, fun y c e => ?_, ?_, fun y c e => I.freeC y c (hsub y c e), fun p hp => ?_, I.hok.kept kp, ?_⟩
  · obtain ⟨c, hc⟩ := S.free _ (hfree y hy) rfl
    refine ⟨c, ?_⟩
    show cenv.cells.lookup y = some c
    rw [e4]
    exact clo_has S.free (hfree y hy) hc
  · show b ≠ cenv.locals
    rw [e5]
    exact Nat.ne_of_lt (hfl b hb)
  · exact (hf b hb).2.2.2.2.1 y c (hsub y c e) z
  · rcases (hf b hb).2.2.2.1 with z | z
    · exact I.ok.noex b o e z
    · exact absurd (Nat.lt_of_lt_of_le (Heap.lt_size e) (Nat.le_trans I.ok.bsz z)) (Nat.lt_irrefl _)
  · have h1 : (gN X.N x cs)[i]? = some y := h1
    have h2 : (gS σ cs)[i]? = some (some v) := h2
    match i, h1, h2 with
    | 0, _, h2 => cases h2
    | 1, _, h2 => cases h2
    | i + 2, h1, h2 =>
      have h1 : (cs.map fun j => X.N.getD j "")[i]? = some y := h1
      have h2 : (cs.map (slotAt σ))[i]? = some (some v) := h2
      rw [List.getElem?_map] at h1 h2
      cases ej : cs[i]? with
      | none => rw [ej] at h1; cases h1
      | some j =>
        rw [ej] at h1 h2
        have h1 : X.N.getD j "" = y := Option.some.inj h1
        have h2 : slotAt σ j = some v := Option.some.inj h2
        obtain ⟨y', hy, hl', hk⟩ := hcs j (List.mem_of_getElem? ej)
        have ey : y' = y := by
          rw [List.getD_eq_getElem?_getD, hy] at h1
          exact h1
        subst ey
        obtain ⟨m, hn, hlk⟩ := I.loc
        have vis : Vis X.env.scope y' := by
          rcases hk with k | k
          · exact .inr (.inl k)
          · exact .inr (.inr k)
        obtain ⟨u, r, q⟩ := hlk j y' v hy (slotAt_some h2) vis
        refine ⟨u, r, .inr ⟨.inr (by show cenv.scope.names.lookup y' = _; rw [e1]; exact hl'), ?_⟩⟩
        rcases q with ⟨k, _⟩ | ⟨_, c, hc, o, ho, hd⟩
        · rcases hk with z | z <;> (rw [k] at z; cases z)
        · refine ⟨c, ?_, o, kp c o ho, hd⟩
          show cenv.cells.lookup y' = some c
          rw [e4]
          exact clo_has S.free (PySem.mem_of_lookup hl') hc
  · obtain ⟨v, o, ho, hd⟩ := old y c e
    exact ⟨v, o, kp c o ho, hd⟩
  · show H1 cenv.locals = none
    rw [e5]
    exact I.hok.fresh (Nat.le_refl _)
  · have hp : p ∈ [(a, go)] ++ [] := hp
    rw [List.append_nil] at hp
    obtain rfl := List.mem_singleton.mp hp
    refine ⟨ha, I.hok.fresh (Nat.le_of_lt hl), ?_, fun hm => ?_, hgo⟩
    · show a ≠ cenv.locals
      rw [e5]
      exact Nat.ne_of_gt hl
    · have hm : a ∈ frs X.stack := hm
      obtain ⟨_, o, ho, _⟩ := I.stack.mem hm
      exact absurd (Nat.lt_trans hl (Heap.lt_size ho)) (Nat.lt_irrefl _)
  · show (gS σ cs).length = (gN X.N x cs).length
    unfold gS gN
    simp
end
/-- a generator expression's code over the frame -/
theorem over_gen {A : Around} {elt : Expr} {gs : List Comprehension} {sc : Scope} {pos : Pos} {it acc : Value} {env : Env} : A.over (.compLoop (.GeneratorExp elt gs sc pos) 0 it acc env) [] = A.deeper env := by
  first
    | rfl
    | (obtain ⟨hd, d, fr, gs, u⟩ := A; simp [Around.over, Around.deeper, marksOver, frameCount, unitsOf, envsOf, guardsOf, pushEnvs, pushGuards, Code.envs, Code.env?, Code.isFrame, Code.guards, Code.isGuard, Code.weight, Code.frames, Code.isCreation, Code.isCaller, Code.cUnits])
end Lk

namespace Lk
open PySem PySem.Spec PyProof.Rows L2 Evl GenW NdefX
/-- a generator's turns: it goes on where the element is kp -/
def GenOk (J : It) (te : TE) (σg : L2.St) (kp : Bool) (QT QF : Hp → Prop) (W : Nat → Nat → Hp → Prop) : Prop :=
  ∀ i m H, W i m H → (J.stop i H ∧ QT H) ∨ (J.go i H ∧ ∀ v H2, J.yld i H v H2 → te (σg.set 1 (some v)) H2 fun r H3 => ∃ b, r = .bl b ∧ if b = kp then ∃ m', m' < m ∧ W (i + 1) m' H3 else QF H3)
def YGx (X : Cx) (σg : L2.St) (kp : Bool) (QF : Hp → Prop) : Protocol := fun n s₀ v s kap =>
  ∃ b H', v = .bool b ∧ Inv X [] σg H' s ∧ if b = kp then ∀ s' : Shared, s'.heap = s.heap → s'.os = s.os → AllBare s'.gens → kap (.send .none) s' else QF H'
def PGx (X : Cx) (σg : L2.St) (QT : Hp → Prop) : Nat → Shared → Shared → Prop := fun n s₀ s₁ => ∃ H', Inv X [] σg H' s₁ ∧ QT H'
abbrev RGx (X : Cx) (σg : L2.St) (QT : Hp → Prop) : GenEnd := fun n s₀ r s₁ => r = .ok .next ∧ PGx X σg QT n s₀ s₁
theorem allBare_set {s : Shared} {g : Nat} {x : GenState} (h : AllBare s.gens) (hx : x.bare = true) : AllBare (s.setGen g x).gens := by
  intro y hy
  have hy : y ∈ s.gens.setIfInBounds g x := hy
  obtain ⟨i, hi, rfl⟩ := Array.mem_iff_getElem.mp hy
  rw [Array.getElem_setIfInBounds]
  split
  · exact hx
  · exact h _ (Array.getElem_mem _)
  all_goals (simpa using hi)
section
variable {X : Cx} {A : Around} {elt iter : Expr} {x : Str} {px pos : Pos} {scope : Scope} {it : Addr} {fp : List Addr} {tn : Nat → Heap → Prop} {J : It} {te : TE} {σg : L2.St} {kp : Bool} {QT QF : Hp → Prop} {W : Nat → Nat → Hp → Prop}
structure GxOk (X : Cx) (A : Around) (x : Str) (fp : List Addr) (σg : L2.St) : Prop where
  A : A.deeper X.env = X.A
  calm : X.calm = true
  ex : X.ex = fp
  xe : ∀ e s, ¬ X.xe e s
  co : X.env.scope.isCoroutine = false
  nd : X.N.Nodup
  ix : X.N[1]? = some x
  loc : X.env.scope.names.lookup x = some .local
  no : σg[1]? = some none
  pn : ∀ p ∈ X.pn, p.1 ∉ fp
theorem GxOk.fok (o : GxOk X A x fp σg) {H : Hp} {s : Shared} {σ : L2.St} (I : Inv X [] σ H s) (h : ∀ b ∈ fp, H b = none) : ∀ b ∈ fp, FpOk X [] H b := fun b hb => by
  have hb' : b ∈ X.ex := by rw [o.ex]; exact hb
  refine ⟨h b hb, (I.ok.exf b hb').1, I.ok.exfs b hb', .inl hb', (I.ok.exf b hb').2, fun p hp e => ?_⟩
  rw [List.append_nil] at hp
  exact o.pn p hp (by rw [e]; exact hb)
theorem seg_gx (o : GxOk X A x fp σg) (T : Turn X.prog X.w X.K (.Name x px) J fp it tn) (pe : PE X elt te) (gw : GenOk J te σg kp QT QF W) :
    ∀ (m n i : Nat) (s₀ s : Shared) (H : Hp), m < n → W i m H → Inv X [] σg H s → tn i s.heap → (∀ b ∈ fp, H b = none) →
      Seg (model X.prog X.w) A (RGx X σg QT) (YGx X σg kp QF) n s₀ (.compLoop (.GeneratorExp elt [⟨.Name x px, iter, [], 0⟩] scope pos) 0 (.ref it) .none X.env)
        ((model X.prog X.w).den (.compLoop (.GeneratorExp elt [⟨.Name x px, iter, [], 0⟩] scope pos) 0 (.ref it) .none X.env)) [] s := by
  intro m
  induction m using Nat.strongRecOn with
  | ind m ih =>
    intro n i s₀ s H hn w I st hf
    have hov : ∀ {c : Code}, c = .compLoop (.GeneratorExp elt [⟨.Name x px, iter, [], 0⟩] scope pos) 0 (.ref it) .none X.env → A.over c [] = X.A := fun e => by rw [e]; exact over_gen.trans o.A
    show Seg _ A _ _ _ s₀ _ ((compTurn (.GeneratorExp elt [⟨.Name x px, iter, [], 0⟩] scope pos) 0 (.ref it) .none X.env).onRaise (leaving X.env)) [] s
    rw [compTurn_gen, Sem.onRaise_eq_wrap]
    refine seg_bind_wrap (wpAny_standAt ?_)
    rcases gw i m H w with ⟨stop, q⟩ | ⟨go, step⟩
    · refine seg_bind_wrap ?_
      rw [hov rfl]
      refine thnF (T.done X rfl rfl rfl o.calm i [] s σg H (fun _ _ => False) I (o.fok I hf) st stop) fun r s1 ⟨er, I1⟩ => ?_
      subst er
      exact seg_end (.ok .next) ⟨rfl, H, I1, q⟩
    · refine seg_bind_wrap ?_
      rw [hov rfl]
      refine thnF (T.item X rfl rfl rfl o.calm i [] s σg H (fun _ _ => False) I (o.fok I hf) st go) fun r s1 ⟨u, er, h1⟩ => ?_
      subst er
      refine seg_bind_wrap ?_
      rw [hov rfl]
      refine thnF h1 fun _ s2 ⟨v, H2, I2, rv, y, st2, hf2⟩ => ?_
      refine seg_bind_wrap (wpAny_assign_Name (store_ok2 (i := 1) I2 o.nd o.ix (.inl o.loc) rv (fun s3 I3 ⟨b3, sb, hb3⟩ => ?_) (.inr o.loc)))
      have fo := o.fok I2 hf2
      have st3 : tn (i + 1) s3.heap := T.keep _ _ _ st2 fun b hb ob e => by
        refine (sb.2 b ?_).trans e
        intro z
        rcases hb3 with q | q
        · exact (fo b hb).2.1 (z.trans q)
        · exact (fo b hb).2.2.2.2.1 _ _ q z.symm
      refine seg_bind_wrap (wpAny_of_eq (a := true) (by rfl) ?_)
      simp only [if_true]
      have hy : ∀ v, yieldOut X.env v = yieldValue v := fun v => by simp only [yieldOut, o.co, Bool.false_eq_true, if_false]
      simp only [hy]
      rw [Sem.bind_eq_wrap', Sem.bind_eq_wrap', Sem.wrap_wrap, Sem.wrap_wrap]
      refine seg_wrap ?_
      rw [hov rfl]
      have I3' := I3.pinned (o.fok I3 hf2) (T.obj _ _ st3)
      refine wpAny_mono (pe.run _ s3 _ H2 _ I3' (step v H2 y)) (fun z s4 ⟨r, H4, I4, rr, b, eb, q⟩ => ?_) fun e s' z => absurd z (o.xe e s')
      subst eb
      obtain rfl : z = Value.bool b := rr
      obtain ⟨n, rfl⟩ : ∃ k, n = k + 1 := ⟨n - 1, by omega⟩
      have pin4 : ∀ b ∈ fp, ∀ ob, s3.heap.get? b = some ob → s4.heap.get? b = some ob ∧ H4 b = none := fun b hb ob e =>
        let z := I4.pin (b, ob) (List.mem_append_right _ (List.mem_append_right _ (mem_pinsAt hb e)))
        ⟨z.1, z.2.1⟩
      have I5 : Inv X [] σg H4 s4 := (I4.unpinned (pins := [])).weak (by rw [List.length_set]) fun j w e => by
        by_cases hj : j = 1
        · rw [hj, o.no] at e
          cases e
        · rw [List.getElem?_set_ne (Ne.symm hj)]
          exact e
      have st5 : tn (i + 1) s4.heap := T.keep _ _ _ st3 fun b hb ob e => (pin4 b hb ob e).1
      have hf5 : ∀ b ∈ fp, H4 b = none := fun b hb => by
        obtain ⟨ob, e, _⟩ := T.obj _ _ st3 b hb
        exact (pin4 b hb ob e).2
      refine seg_at (seg_yield rfl rfl rfl ⟨b, H4, rfl, I5, ?_⟩)
      by_cases hb : b = kp
      · rw [if_pos hb] at q ⊢
        obtain ⟨m', hm, w'⟩ := q
        intro s' e1 e2 e3
        exact seg_again rfl (ih m' hm n (i + 1) s' s' H4 (by omega) w' (inv_gens I5 e1 e2 e3) (by rw [e1]; exact st5) hf5)
      · rw [if_neg hb] at q ⊢
        exact q
theorem seg_gxS (o : GxOk X A x fp σg) (T : Turn X.prog X.w X.K (.Name x px) J fp it tn) (pe : PE X elt te) (gw : GenOk J te σg kp QT QF W)
    {m n : Nat} {s₀ s : Shared} {H : Hp} (hn : m < n) (w : W 0 m H) (I : Inv X [] σg H s) (st : tn 0 s.heap) (hf : ∀ b ∈ fp, H b = none) :
      Seg (model X.prog X.w) A (RGx X σg QT) (YGx X σg kp QF) n s₀ (.compStart (.GeneratorExp elt [⟨.Name x px, iter, [], 0⟩] scope pos) 0 (.ref it) .none X.env)
        ((model X.prog X.w).den (.compStart (.GeneratorExp elt [⟨.Name x px, iter, [], 0⟩] scope pos) 0 (.ref it) .none X.env)) [] s := by
  have loop := seg_gx (iter := iter) (scope := scope) (pos := pos) o T pe gw m n 0 s₀ s H hn w I st hf
  show Seg _ A _ _ _ s₀ _ ((compStart (.GeneratorExp elt [⟨.Name x px, iter, [], 0⟩] scope pos) 0 (.ref it) .none X.env).onRaise (leaving X.env)) [] s
  unfold compStart
  rw [Sem.onRaise_eq_wrap]
  show Seg _ A _ _ _ s₀ _ ((ask >>= _).wrap _ _ _ _) [] s
  refine seg_bind_wrap (wpAny_askSetting ?_)
  split
  · exact seg_again rfl loop
  · first
      | exact seg_bind_wrap (wpAny_rule (seg_bind_wrap (wpAny_standAt (seg_bind_wrap (T.self _ 0 s _ _ st (seg_again rfl loop))))))
      | (refine seg_bind_wrap (wpAny_rule ?_); show Seg _ A _ _ _ s₀ _ ((standAt iter.pos >>= _).wrap _ _ _ _) [] s; exact seg_bind_wrap (wpAny_standAt (seg_bind_wrap (T.self _ 0 s _ _ st (seg_again rfl loop)))))
/-- the consumers -/
theorem all_gx {a : Addr} {g : Nat} {R : Result → Shared → Prop} {A : Around} (hh : A.handled = none) (hroom : A.depth < recursionLimit) (hgen : ∀ H' s', Inv X [] σg H' s' → s'.heap.IsGen a g)
    (hT : ∀ s' H', Inv X [] σg H' s' → QT H' → R (.ok (.ret (.bool true))) s') (hF : ∀ s' H', Inv X [] σg H' s' → QF H' → R (.ok (.ret (.bool false))) s') :
    ∀ (n : Nat) (s : Shared) (H : Hp) (gs : GenState), Inv X [] σg H s → s.gens[g]? = some gs → gs.Goes (model X.prog X.w) A.in1.in1 (RGx X σg QT) (YGx X σg true QF) n (.send .none) (s.setGen g .running) →
      codeAny (model X.prog X.w) A (.builtin "all.loop" ⟨[.ref a], []⟩) R s := by
  intro n
  induction n with
  | zero =>
    intro s H gs I hgs hgo
    refine codeAny_builtin F.entry_all_loop ?_
    rw [Around.under_plainId F.plain_all_loop _]
    show wpAny _ A.in1 (pyNext (.ref a) >>= _) _ _ s
    refine wpAny_bind (wpAny_gsz (Nat.le_refl s.gens.size) (wpAny_pyNext_genexpQ (A := A.in1) (P := PGx X σg QT) hh I.nolimit hroom (hgen H s I) hgs hgo (fun v s₁ gs' hb hv hsz => ?_) fun s₁ hp h' hk hsz => ?_))
    · obtain ⟨b, H', rfl, I1, hk⟩ := hv
      have I2 : Inv X [] σg H' (s₁.setGen g gs') := inv_gens I1 rfl rfl (allBare_set I1.bare hb)
      refine wpAny_bind (wpAny_holding (wpAny_truthy_bool ?_))
      refine wpAny_bind (wpAny_letGo ?_)
      cases b with
      | true =>
        rw [if_pos rfl] at hk
        exact (hk s₁ rfl rfl I1.bare).elim
      | false =>
        rw [if_neg Bool.false_ne_true] at hk
        simp only [Bool.false_eq_true, if_false]
        exact wpAny_bind (wpAny_rule (wpAny_pure (hF _ _ I2 hk)))
    · obtain ⟨H', I1, q⟩ := hp
      have I2 : Inv X [] σg H' { s₁.setGen g .finished with heap := h' } := (inv_gens (s' := s₁.setGen g .finished) I1 rfl rfl (allBare_set I1.bare rfl)).kept (t' := (s₁.setGen g .finished).toks) fun b ob e => hk b ob e
      exact wpAny_bind (wpAny_rule (wpAny_pure (hT _ _ I2 q)))
  | succ n ih =>
    intro s H gs I hgs hgo
    refine codeAny_builtin F.entry_all_loop ?_
    rw [Around.under_plainId F.plain_all_loop _]
    show wpAny _ A.in1 (pyNext (.ref a) >>= _) _ _ s
    refine wpAny_bind (wpAny_gsz (Nat.le_refl s.gens.size) (wpAny_pyNext_genexpQ (A := A.in1) (P := PGx X σg QT) hh I.nolimit hroom (hgen H s I) hgs hgo (fun v s₁ gs' hb hv hsz => ?_) fun s₁ hp h' hk hsz => ?_))
    · obtain ⟨b, H', rfl, I1, hk⟩ := hv
      have I2 : Inv X [] σg H' (s₁.setGen g gs') := inv_gens I1 rfl rfl (allBare_set I1.bare hb)
      refine wpAny_bind (wpAny_holding (wpAny_truthy_bool ?_))
      refine wpAny_bind (wpAny_letGo ?_)
      cases b with
      | true =>
        rw [if_pos rfl] at hk
        simp only [if_true]
        have hg1 : g < s₁.gens.size := by
          have h1 : g < s.gens.size := (Array.getElem?_eq_some_iff.mp hgs).1
          rw [setGen_size] at hsz
          omega
        have e2 : (s₁.setGen g gs').gens[g]? = some gs' := setGen_self (gs := s₁.gens[g]) (Array.getElem?_eq_getElem hg1)
        refine wpAny_pure ⟨plainId_quiet F.plain_all_loop _, ih _ H' gs' I2 e2 (hk _ rfl rfl (allBare_set (allBare_set I1.bare hb) rfl))⟩
      | false =>
        rw [if_neg Bool.false_ne_true] at hk
        simp only [Bool.false_eq_true, if_false]
        exact wpAny_bind (wpAny_rule (wpAny_pure (hF _ _ I2 hk)))
    · obtain ⟨H', I1, q⟩ := hp
      have I2 : Inv X [] σg H' { s₁.setGen g .finished with heap := h' } := (inv_gens (s' := s₁.setGen g .finished) I1 rfl rfl (allBare_set I1.bare rfl)).kept (t' := (s₁.setGen g .finished).toks) fun b ob e => hk b ob e
      exact wpAny_bind (wpAny_rule (wpAny_pure (hT _ _ I2 q)))
end
end Lk

namespace Lk
open PySem PySem.Spec PyProof.Rows L2 Evl GenW NdefX
/-- all(test for x in e), any(..): kp is where it goes on -/
def tAllX (P : Addr) (wi : TI) (te : TE) (cs : List Nat) (kp : Bool) : TE := fun σ H Q => wi σ H fun J H1 => H1 P = some (TabO P) ∧ ∃ W, (∃ m, W 0 m H1) ∧ GenOk J te (gS σ cs) kp (Q (.bl kp)) (Q (.bl (!kp))) W
/-- the element, in the generator's frame -/
abbrev EltX (X : Cx) (scope : Scope) (x : Str) (cs : List Nat) (k : Nat) (elt : Expr) (te : TE) : Prop :=
  ∀ (s4 : Shared) (H1 : Hp) (C : Addr) (cl : List (Str × Addr)) (cd : Value) (A' : Around) (fp : List Addr) (pn : List (Addr × Obj)), Room k A' → PE (gx X s4 H1 (genEnv scope cl C cd builtinsNs X.env) A' (gN X.N x cs) fp pn) elt te
section
variable {X : Cx} {pins : List (Addr × Obj)} {σ : L2.St} {H : Hp} {s : Shared}
/-- the generator is made: what holds then -/
structure MadeX (X : Cx) (pins : List (Addr × Obj)) (σ : L2.St) (σg : L2.St) (H1 : Hp) (kp : Bool) (QT QF : Hp → Prop) (a : Addr) (s5 : Shared) : Prop where
  go : ∃ (Xg : Cx) (g n : Nat) (gs : GenState), Xg.prog = X.prog ∧ Xg.w = X.w ∧ (∀ H' s', Inv Xg [] σg H' s' → s'.heap.IsGen a g ∧ Inv X pins σ H' s') ∧ Inv Xg [] σg H1 s5 ∧ s5.gens[g]? = some gs ∧
    gs.Goes (model X.prog X.w) X.A.in1.in1 (RGx Xg σg QT) (YGx Xg σg kp QF) n (.send .none) (s5.setGen g .running)
theorem make_gx {c P : Addr} {elt iter : Expr} {x : Str} {px gpos : Pos} {scope : Scope} {wi : TI} {te : TE} {k : Nat} {cs : List Nat} {kp : Bool} {Q : VK} {Q' : Value → Shared → Prop} (hr : Room (k + 1) X.A) (TB : GxR.TabB X.base X.mg c P) (hcode : X.env.code = .ref c) (S : GxR.GenS X.env scope x)
    (hcs : CapOk X scope cs) (hnd : (gN X.N x cs).Nodup) (hi : PI X (.Name x px) iter wi) (he : EltX X scope x cs k elt te) (hs : ∀ v, genFold iter X.env v = pure v) (I : Inv X pins σ H s) (h : tAllX P wi te cs kp σ H Q)
    (hQ : ∀ H1 a s5, MadeX X pins σ (gS σ cs) H1 kp (Q (.bl kp)) (Q (.bl (!kp))) a s5 → Q' (.ref a) s5) :
    wpAny (model X.prog X.w) X.A (eval (.GeneratorExp elt [⟨.Name x px, iter, [], 0⟩] scope gpos) X.env) Q' X.xe s := by
  refine wpAny_GeneratorExp_make S.co (closure_ok S.free) S.cell S.dot S.kind (by have := hr.dp; omega) ?_ hs
  refine thn (hi.run pins s σ H _ I h) fun xv s0 hx => thn hx fun itv s1 h2 => ?_
  obtain ⟨it, fp, tn, J, H1, e, I1, T, st1, f1, hP, W, ⟨m0, w0⟩, gw⟩ := h2
  subst e
  obtain ⟨⟨ps, hPs, ht⟩, _, _⟩ := I1.hok P _ hP
  refine ⟨I1.nolimit, ?_⟩
  have cd : PySem.W.CodeHd s1.heap c P := TB.code.keeps fun b u e => I1.bk b u e
  have cont : ∀ (code : Value) (h3 : Heap) (tk : Nat) (ps' : Array Value), Heap.ExtBut P s1.heap h3 → s1.heap.objs.size ≤ h3.objs.size → h3.get? P = some { cls := .none, data := .fields ps' } → TriplesOk ps'.toList →
      wpAny (model X.prog X.w) X.A (builtinsFor X.env.globals X.env.builtins) (fun bi s₄ => ∀ h', h'.Ns s₄.heap.objs.size (fun y => if y = ".0" then some (.ref it) else none) → Heap.SameBut s₄.heap.objs.size (s₄.heap.push { cls := .type "frame", data := .dict #[] }) h' →
          Q' (.ref h'.objs.size) { s₄ with
            gens := s₄.gens.push (.fresh (.compStart (.GeneratorExp elt [⟨.Name x px, iter, [], 0⟩] scope gpos) 0 (.ref it) .none (genEnv scope (cloFrom X.env.cells scope.names []) s₄.heap.objs.size code bi X.env))),
            toks := s₄.toks + 1 + 1 + 1,
            heap := h'.push { cls := .type "generator", data := .fields #[.int s₄.gens.size 0, .str "<genexpr>" (s₄.toks + 1), .str (X.env.qual ++ "<genexpr>") (s₄.toks + 1 + 1)] } }) X.xe { s1 with heap := h3, toks := tk } := by
    intro code h3 tk ps' hx hsz hP3 ht3
    obtain ⟨bm, ob, e1, e2, e3, e4, e5, e6, e7, e8⟩ := TB.bm
    have keep3 : ∀ b u, b ≠ P → s1.heap.get? b = some u → h3.get? b = some u := fun b u hb e => hx b u hb e
    refine wpAny_builtinsFor (m := X.mg) (by rw [I1.ok.glob]; exact (I1.mod.glob.keeps I1.bk).extBut hx TB.gP) e1 e2 (keep3 _ _ e4 (I1.bk _ _ e5)) e6 e7 e8 ?_
    have I4 : Inv X pins σ H1 { s1 with heap := h3, gens := s1.gens, drawn := s1.drawn, toks := tk } := inv_tabO I1 hP keep3 hP3 ht3 I1.bare
    generalize hs4 : ({ s1 with heap := h3, toks := tk } : Shared) = s4
    have I4 : Inv X pins σ H1 s4 := by rw [← hs4]; exact I4
    have h4 : s4.heap = h3 := by rw [← hs4]
    intro h' hn' hsb
    have hsz' : h'.objs.size = s4.heap.objs.size + 1 := by rw [hsb.1, Heap.size_push]
    have keep' : ∀ b o, s4.heap.get? b = some o → h'.get? b = some o := fun b o e => hsb.extBut b o (Nat.ne_of_lt (Heap.lt_size e)) (Heap.get?_push_of_some _ e)
    generalize hgo : ({ cls := .type "generator", data := .fields #[.int s4.gens.size 0, .str "<genexpr>" (s4.toks + 1), .str (X.env.qual ++ "<genexpr>") (s4.toks + 1 + 1)] } : Obj) = go
    have hgp : (h'.push go).get? h'.objs.size = some go := by rw [← hgo]; exact Heap.get?_push_size _ rfl
    generalize hce : genEnv scope (cloFrom X.env.cells scope.names []) s4.heap.objs.size code builtinsNs X.env = cenv
    generalize hs5 : ({ s4 with gens := s4.gens.push (.fresh (.compStart (.GeneratorExp elt [⟨.Name x px, iter, [], 0⟩] scope gpos) 0 (.ref it) .none cenv)), toks := s4.toks + 1 + 1 + 1, heap := h'.push go } : Shared) = s5
    have h5 : s5.heap = h'.push go := by rw [← hs5]
    have kp5 : ∀ b o, s4.heap.get? b = some o → s5.heap.get? b = some o := fun b o e => by rw [h5]; exact Heap.get?_push_of_some _ (keep' b o e)
    have sz : ∀ b ∈ fp, b < s4.heap.objs.size := fun b hb => by
      obtain ⟨o, e, _⟩ := T.obj _ _ st1 b hb
      rw [h4]
      exact Nat.lt_of_lt_of_le (Heap.lt_size e) hsz
    have bare5 : AllBare s5.gens := by rw [← hs5]; exact AllBare.push I4.bare rfl
    have os5 : s5.os = s4.os := by rw [← hs5]
    have hrr : Room k (X.A.in1.in1.deeper cenv) := ⟨hr.hd, by have := hr.dp; show X.A.depth + 1 + 3 * k + 5 < _; omega, by have := hr.un; show X.A.units + 1 + 1 + 3 + 16 * k + 200 < _; omega⟩
    have IG : Inv (gx X s4 H1 cenv (X.A.in1.in1.deeper cenv) (gN X.N x cs) fp [(h'.objs.size, go)]) [] (gS σ cs) H1 s5 := by
      refine inv_gx (m0 := fun y => if y = ".0" then some (.ref it) else none) I4 S hcs f1 sz (by rw [← hce]; rfl) (by rw [← hce]; rfl) (by rw [← hce]; rfl) (by rw [← hce]; rfl) (by rw [← hce]; rfl) (by rw [← hce]; rfl) hr.hd (Around.frames_deeper I4.ok.frames) os5 bare5 kp5 ?_ (by rw [h5]; exact hgp) (by rw [hsz']; exact Nat.lt_succ_self _) (fun v z => by rw [← hgo] at z; cases z)
      rw [h5, ← hce]
      exact hn'.push _
    have pe := he s4 H1 s4.heap.objs.size (cloFrom X.env.cells scope.names []) code (X.A.in1.in1.deeper cenv) fp [(h'.objs.size, go)] hrr
    rw [hce] at pe
    have gok : GxOk (gx X s4 H1 cenv (X.A.in1.in1.deeper cenv) (gN X.N x cs) fp [(h'.objs.size, go)]) X.A.in1.in1 x fp (gS σ cs) :=
      ⟨rfl, rfl, rfl, fun _ _ z => z, by rw [← hce]; exact S.co, hnd, rfl, by rw [← hce]; exact S.loc, rfl, fun p hp z => by
        have hp : p ∈ [(h'.objs.size, go)] := hp
        rw [List.mem_singleton.mp hp] at z
        have : h'.objs.size < s4.heap.objs.size := sz _ z
        omega⟩
    have st5 : tn 0 s5.heap := T.keep _ _ _ st1 fun b hb o e => kp5 b o (by
      rw [h4]
      exact keep3 b o (fun z => by rw [z] at hb; have := (f1 P hb).1; rw [hP] at this; cases this) e)
    have hf5 : ∀ b ∈ fp, H1 b = none := fun b hb => (f1 b hb).1
    refine hQ H1 h'.objs.size s5 ⟨gx X s4 H1 cenv (X.A.in1.in1.deeper cenv) (gN X.N x cs) fp [(h'.objs.size, go)], s4.gens.size, m0 + 1, .fresh (.compStart (.GeneratorExp elt [⟨.Name x px, iter, [], 0⟩] scope gpos) 0 (.ref it) .none cenv), rfl, rfl, fun H' s' I' => ⟨?_, ?_⟩, IG, by rw [← hs5]; exact Array.getElem?_push_size .., rfl, ?_⟩
    · have e := (I'.pin (h'.objs.size, go) (List.mem_append_left _ (List.mem_singleton.mpr rfl))).1
      exact ⟨go, .str "<genexpr>" (s4.toks + 1), .str (X.env.qual ++ "<genexpr>") (s4.toks + 1 + 1), e, by rw [← hgo], by rw [← hgo], by rw [← hgo]⟩
    · exact I4.call' (ch := fp) I'.os I'.base I'.hok I'.bare fun b hb => ⟨(f1 b hb).2.2.2.1, (f1 b hb).2.1, (f1 b hb).2.2.2.2.1, (f1 b hb).2.2.2.2.2⟩
    · exact seg_gxS gok T pe gw (Nat.lt_succ_self m0) w0 (inv_gens (s' := s5.setGen s4.gens.size .running) IG rfl rfl (allBare_set bare5 rfl)) st5 hf5
  cases hf : codeAmong gpos ps.toList with
  | none =>
    refine wpAny_genexprCodeX hcode (cd.code hPs ht) (cd.tab hPs) hf fun c' h' tk hx hge hlt hco' _ htab' _ => ?_
    obtain ⟨o1, vs, f1, tf, fl, tg, inF, tx, tt, op, _, _, _, _, _, _, _, _, _, htr, _⟩ := hco'
    exact cont _ h' tk _ hx (Nat.le_trans hge (Nat.le_of_lt hlt)) htab'.2 htr
  | some cv =>
    refine wpAny_genexprCode_hit hcode (cd.code hPs ht) hf ?_
    exact cont cv s1.heap s1.toks ps (Heap.ExtBut.refl _ _) (Nat.le_refl _) hPs ht
theorem pe_allX {c P : Addr} {elt iter : Expr} {x : Str} {px p pos gpos : Pos} {scope : Scope} {wi : TI} {te : TE} {k : Nat} {cs : List Nat} (TB : GxR.TabB X.base X.mg c P) (hr : Room (k + 1) X.A) (hg : Gl X "all") (hm : X.mg "all" = none) (hcode : X.env.code = .ref c) (S : GxR.GenS X.env scope x)
    (hcs : CapOk X scope cs) (hnd : (gN X.N x cs).Nodup) (hi : PI X (.Name x px) iter wi) (hel : EltX X scope x cs k elt te) (hs : ∀ v, genFold iter X.env v = pure v)
    (he : starEach [.GeneratorExp elt [⟨.Name x px, iter, [], 0⟩] scope gpos] X.env = (false, eval (.GeneratorExp elt [⟨.Name x px, iter, [], 0⟩] scope gpos) X.env) :: starEach [] X.env := by rfl) :
    PE X (.Call (.Name "all" p) [.GeneratorExp elt [⟨.Name x px, iter, [], 0⟩] scope gpos] [] pos) (tAllX P wi te cs true) := by
  refine ⟨fun pins s σ H Q I h => ?_⟩
  refine wpAny_Call_Name_kw (ld_blt I hg hm (show bootBuiltins "all" = some (.builtin "all") by first | decide +kernel | kernel_rfl) ?_)
  refine PyProof.Rows.callWith_builtin1 ?_ he (by rfl)
  rw [he]
  show wpAny _ _ (spliced ((false, eval (.GeneratorExp elt [⟨.Name x px, iter, [], 0⟩] scope gpos) X.env) :: backTo pos (starEach [] X.env))) _ _ s
  refine Calls.spliced_cons (make_gx hr TB hcode S hcs hnd hi hel hs I h fun H1 a s5 hG => ?_)
  obtain ⟨Xg, g, n, gs, eP, ew, hb, IG, hgs, hgo⟩ := hG.go
  refine Calls.spliced_nil ?_
  refine call_function_tree F.kind_all F.plain_all F.entry_all (F.args_all1 _) ?_
  unfold Builtin.«all»
  refine wpAny_bind (m := oneArg "all" _) (wpAny_pure ?_)
  refine wpAny_bind (wpAny_pyIter_gen (hb _ _ IG).1 ?_)
  rw [← eP, ← ew] at hgo ⊢
  refine wpAny_pure ⟨plainId_quiet F.plain_all_loop _, all_gx (QT := Q (.bl true)) (QF := Q (.bl false)) hr.hd (by have := hr.dp; omega) (fun H' s' I' => (hb _ _ I').1) (fun s' H' I' q => ?_) (fun s' H' I' q => ?_) n s5 H1 gs IG hgs hgo⟩
  · exact ⟨.bl true, H', (hb _ _ I').2, rfl, q⟩
  · exact ⟨.bl false, H', (hb _ _ I').2, rfl, q⟩
end
end Lk

/-! Fx: values as trees, what a frame owns; the readings of expressions and statements over these -/
namespace Fx
open PySem PySem.Spec PyProof.Rows L2 Evl Lk

/-- a built-in class; a class of the program; an exception that was caught: its class, the number that it bears -/
inductive Tk where
  | bt (n : String) | cls (C : Addr) | exc (C : Addr) (row : Option Int)
instance : Coe String Tk := ⟨.bt⟩
/-- a value that is not changed any more, as a tree -/
inductive D where
  | non | bl (b : Bool) | int (i : Int) | str (x : Str) | ty (n : Tk)
  | lst (ds : List D) | tup (ds : List D) | dic (ks : List Key) (ds : List D)
/-- a thing that is owned: a list, a dict, an instance; or a value -/
inductive O where
  | f (d : D) | lst (ds : List D) | dic (ks : List Key) (os : List O) | ins (C : Addr) (ns : List Str) (os : List O)
/-- a slot -/
inductive Sl where
  | f (d : D) | own (o : O) | vw (o : O)
abbrev Env := List (Option Sl)
/-- an exception in the air: its class, the number that it bears -/
structure Xv where
  C : Addr
  row : Option Int
/-- a def's run: what is known of the top, the tables, the state at its entry, the slots that keep their things -/
structure Gx where
  K : PySem.W.Frag
  tabs : List Addr
  T0 : Addr → Prop
  H0 : Hp
  P0 : Addr → Prop
  σ0 : L2.St
  prot : Nat → Bool
  /-- what is wanted of an exception, of the frame behind it; what stands and is kept till then -/
  xw : Xv → Env → Prop
  hx : Hp

/-- an exception that was caught, as an object -/
def ExT (a C : Addr) (d : Option Addr) : HO := .ext fun h => ∃ (oe : Obj) (vs : Array Value), h.get? a = some oe ∧ oe.cls = .ref C ∧ oe.dict = d ∧ oe.data = .fields vs
/-- what it bears -/
def RowR (H : Hp) (d : Option Addr) : Option Int → Prop
  | none => d = none
  | some r => ∃ dd, d = some dd ∧ H dd = some (.xd [("row", .int r)])
mutual
inductive Fz (K : PySem.W.Frag) (H : Hp) : V → D → Prop
  | non : Fz K H .non .non
  | bl (b : Bool) : Fz K H (.bl b) (.bl b)
  | int (i : Int) : Fz K H (.int i) (.int i)
  | str (x : Str) : Fz K H (.str x) (.str x)
  | ty (n : String) : Fz K H (.ty n) (.ty n)
  | cls (C : Addr) : Fz K H (.ref C) (.ty (.cls C))
  | exc {a C : Addr} {d : Option Addr} {row : Option Int} : H a = some (ExT a C d) → RowR H d row → Fz K H (.ref a) (.ty (.exc C row))
  | lst {a : Addr} {vs : List V} {ds : List D} : SqL K H a vs → FzL K H vs ds → Fz K H (.ref a) (.lst ds)
  | tup {a : Addr} {vs : List V} {ds : List D} : SqT K H a vs → FzL K H vs ds → Fz K H (.ref a) (.tup ds)
  | dic {a : Addr} {ks : List Key} {vs : List V} {ds : List D} : Rd H a (.dK (ks.zip vs)) → ks.length = vs.length → FzL K H vs ds → Fz K H (.ref a) (.dic ks ds)
inductive FzL (K : PySem.W.Frag) (H : Hp) : List V → List D → Prop
  | nil : FzL K H [] []
  | cons {v : V} {vs : List V} {d : D} {ds : List D} : Fz K H v d → FzL K H vs ds → FzL K H (v :: vs) (d :: ds)
end
theorem RowR.ex {H H' : Hp} {d : Option Addr} (e : Ex H H') : ∀ {r : Option Int}, RowR H d r → RowR H' d r
  | none, h => h
  | some _, ⟨dd, h1, h2⟩ => ⟨dd, h1, e _ _ h2⟩
section
variable {K : PySem.W.Frag} {H H' : Hp}
mutual
theorem Fz.ex (e : Ex H H') : ∀ {d : D} {v : V}, Fz K H v d → Fz K H' v d
  | .non, _, h => by cases h; exact .non
  | .bl b, _, h => by cases h; exact .bl b
  | .int i, _, h => by cases h; exact .int i
  | .str x, _, h => by cases h; exact .str x
  | .ty (.bt n), _, h => by cases h; exact .ty n
  | .ty (.cls C), _, h => by cases h; exact .cls C
  | .ty (.exc C r), _, h => by cases h with | exc a b => exact .exc (e _ _ a) (b.ex e)
  | .lst ds, _, h => by cases h with | lst a b => exact .lst (ex_l e a) (FzL.ex e b)
  | .tup ds, _, h => by cases h with | tup a b => exact .tup (ex_t e a) (FzL.ex e b)
  | .dic ks ds, _, h => by cases h with | dic a l b => exact .dic (ex_rd e a) l (FzL.ex e b)
theorem FzL.ex (e : Ex H H') : ∀ {ds : List D} {vs : List V}, FzL K H vs ds → FzL K H' vs ds
  | [], _, h => by cases h; exact .nil
  | d :: ds, _, h => by cases h with | cons a b => exact .cons (Fz.ex e a) (FzL.ex e b)
end
theorem FzL.length {vs : List V} {ds : List D} (h : FzL K H vs ds) : vs.length = ds.length := by
  induction ds generalizing vs with
  | nil => cases h; rfl
  | cons d ds ih => cases h with | cons a b => simp only [List.length_cons, ih b]
theorem FzL.get {vs : List V} {ds : List D} (h : FzL K H vs ds) {i : Nat} {v : V} {d : D} (hv : vs[i]? = some v) (hd : ds[i]? = some d) : Fz K H v d := by
  induction ds generalizing vs i with
  | nil => cases hd
  | cons e ds ih => cases h with
    | cons a b => cases i with
      | zero => cases hv; cases hd; exact a
      | succ i => exact ih b (by simpa using hv) (by simpa using hd)
theorem FzL.append {vs ws : List V} {ds es : List D} (h : FzL K H vs ds) (g : FzL K H ws es) : FzL K H (vs ++ ws) (ds ++ es) := by
  induction ds generalizing vs with
  | nil => cases h; exact g
  | cons d ds ih => cases h with | cons a b => exact .cons a (ih b)
theorem FzL.take {vs : List V} {ds : List D} (n : Nat) (h : FzL K H vs ds) : FzL K H (vs.take n) (ds.take n) := by
  induction ds generalizing vs n with
  | nil => cases h; simp; exact .nil
  | cons d ds ih => cases h with
    | cons a b => cases n with
      | zero => exact .nil
      | succ n => exact .cons a (ih n b)
theorem FzL.drop {vs : List V} {ds : List D} (n : Nat) (h : FzL K H vs ds) : FzL K H (vs.drop n) (ds.drop n) := by
  induction ds generalizing vs n with
  | nil => cases h; simp; exact .nil
  | cons d ds ih => cases h with
    | cons a b => cases n with
      | zero => exact .cons a b
      | succ n => exact ih n b
theorem FzL.set {vs : List V} {ds : List D} {v : V} {d : D} (h : FzL K H vs ds) (r : Fz K H v d) (i : Nat) : FzL K H (vs.set i v) (ds.set i d) := by
  induction ds generalizing vs i with
  | nil => cases h; exact .nil
  | cons e ds ih => cases h with
    | cons a b => cases i with
      | zero => exact .cons r b
      | succ i => exact .cons a (ih b i)
end

open Classical in
/-- the heap without what is owned -/
noncomputable def hid (T : Addr → Prop) (H : Hp) : Hp := fun a => if T a then none else H a
section
variable {T T' : Addr → Prop} {H H' : Hp} {a : Addr} {o : HO}
theorem hid_of (h : H a = some o) (n : ¬ T a) : hid T H a = some o := by unfold hid; rw [if_neg n]; exact h
theorem hid_some (h : hid T H a = some o) : H a = some o ∧ ¬ T a := by
  unfold hid at h
  by_cases n : T a
  · rw [if_pos n] at h; cases h
  · rw [if_neg n] at h; exact ⟨h, n⟩
theorem hid_ex : Ex (hid T H) H := fun _ _ h => (hid_some h).1
end

/-- what changed: P alone; T' is what is owned then -/
structure Chg (T : Addr → Prop) (H : Hp) (P : Addr → Prop) (T' : Addr → Prop) (H' : Hp) : Prop where
  keep : ∀ a o, H a = some o → ¬ P a → H' a = some o
  tk : ∀ a, T a → ¬ P a → T' a
  tf : ∀ a, T' a → T a ∨ H a = none
  tr : ∀ a, T' a → H' a ≠ none
  dom : ∀ a, H a ≠ none → H' a ≠ none
def Sub (T P : Addr → Prop) : Prop := ∀ a, P a → T a
abbrev Trk (T : Addr → Prop) (H : Hp) : Prop := ∀ a, T a → H a ≠ none
section
variable {T T1 T2 P P1 P2 : Addr → Prop} {H H1 H2 : Hp}
theorem Chg.refl (t : Trk T H) : Chg T H P T H := ⟨fun _ _ h _ => h, fun _ h _ => h, fun _ h => .inl h, t, fun _ h => h⟩
theorem Chg.trans (t : Trk T H) (a : Chg T H P T1 H1) (b : Chg T1 H1 P1 T2 H2) (s : ∀ a, P1 a → P a ∨ H a = none) : Chg T H P T2 H2 where
  keep := fun x o h n => b.keep x o (a.keep x o h n) fun z => by
    rcases s x z with z | z
    · exact n z
    · rw [z] at h; cases h
  tk := fun x h n => b.tk x (a.tk x h n) fun z => by
    rcases s x z with z | z
    · exact n z
    · exact t x h z
  tf := fun x h => by
    rcases b.tf x h with z | z
    · exact a.tf x z
    · refine .inr ?_
      cases e : H x with
      | none => rfl
      | some o => exact absurd z (a.dom x (by rw [e]; exact nofun))
  tr := b.tr
  dom := fun x h => b.dom x (a.dom x h)
theorem Chg.hid (c : Chg T H P T1 H1) (s : Sub T P) : Ex (hid T H) (hid T1 H1) := fun a o h => by
  obtain ⟨h1, h2⟩ := hid_some h
  refine hid_of (c.keep a o h1 fun z => h2 (s a z)) fun z => ?_
  rcases c.tf a z with z | z
  · exact h2 z
  · rw [z] at h1; cases h1
theorem Chg.ex (c : Chg T H (fun _ => False) T1 H1) : Ex H H1 := fun a o h => c.keep a o h (fun z => z)
theorem Chg.weak (c : Chg T H P T1 H1) (s : ∀ a, P a → P1 a) : Chg T H P1 T1 H1 := ⟨fun a o h n => c.keep a o h fun z => n (s a z), fun a h n => c.tk a h fun z => n (s a z), c.tf, c.tr, c.dom⟩
/-- .. that is owned -/
theorem Chg.newOwn {p : Addr} {o : HO} (t : Trk T H) (h : H p = none) : Chg T H P (fun a => T a ∨ a = p) (upd H p o) where
  keep := fun a u e _ => by rw [upd_ne (ne_of_none e h)]; exact e
  tk := fun _ h _ => .inl h
  tf := fun a ha => by
    rcases ha with ha | rfl
    · exact .inl ha
    · exact .inr h
  tr := fun a ha => by
    by_cases e : a = p
    · subst e; rw [upd_same]; exact nofun
    · rw [upd_ne e]
      rcases ha with ha | ha
      · exact t a ha
      · exact absurd ha e
  dom := fun a ha => by
    by_cases e : a = p
    · subst e; rw [upd_same]; exact nofun
    · rw [upd_ne e]; exact ha
/-- an owned thing is written -/
theorem Chg.write {p : Addr} {o : HO} (t : Trk T H) (h : P p) : Chg T H P T (upd H p o) where
  keep := fun a u e n => by rw [upd_ne (fun z => n (by rw [z]; exact h))]; exact e
  tk := fun _ h _ => h
  tf := fun _ h => .inl h
  tr := fun a ha => by
    by_cases e : a = p
    · subst e; rw [upd_same]; exact nofun
    · rw [upd_ne e]; exact t a ha
  dom := fun a ha => by
    by_cases e : a = p
    · subst e; rw [upd_same]; exact nofun
    · rw [upd_ne e]; exact ha
end

/-! ### what is owned -/
mutual
inductive Ow (K : PySem.W.Frag) (T : Addr → Prop) (H : Hp) : O → V → List Addr → Prop
  | f {d : D} {v : V} : Fz K (hid T H) v d → Ow K T H (.f d) v []
  | lst {p : Addr} {vs : List V} {ds : List D} : T p → H p = some (.lst vs) → FzL K (hid T H) vs ds → Ow K T H (.lst ds) (.ref p) [p]
  | dic {p : Addr} {ks : List Key} {vs : List V} {os : List O} {fp : List Addr} : T p → H p = some (.dK (ks.zip vs)) → ks.length = vs.length → OwL K T H os vs fp → p ∉ fp → Ow K T H (.dic ks os) (.ref p) (p :: fp)
  | ins {p C dx : Addr} {ns : List Str} {vs : List V} {os : List O} {fp : List Addr} : T p → H p = some (.ins C dx (ns.zip vs)) → ns.length = vs.length → OwL K T H os vs fp → p ∉ fp → Ow K T H (.ins C ns os) (.ref p) (p :: fp)
inductive OwL (K : PySem.W.Frag) (T : Addr → Prop) (H : Hp) : List O → List V → List Addr → Prop
  | nil : OwL K T H [] [] []
  | cons {o : O} {os : List O} {v : V} {vs : List V} {f1 f2 : List Addr} : Ow K T H o v f1 → OwL K T H os vs f2 → (∀ a ∈ f1, a ∉ f2) → OwL K T H (o :: os) (v :: vs) (f1 ++ f2)
end
section
variable {K : PySem.W.Frag} {T T' : Addr → Prop} {H H' : Hp}
mutual
theorem Ow.step (e : Ex (hid T H) (hid T' H')) : ∀ {o : O} {v : V} {fp : List Addr}, (∀ a ∈ fp, ∀ u, H a = some u → H' a = some u) → (∀ a ∈ fp, T a → T' a) → Ow K T H o v fp → Ow K T' H' o v fp
  | .f d, _, _, _, _, h => by cases h with | f a => exact .f (a.ex e)
  | .lst ds, _, _, k, t, h => by cases h with | lst a b c => exact .lst (t _ (by simp) a) (k _ (by simp) _ b) (c.ex e)
  | .dic ks os, _, _, k, t, h => by cases h with | dic a b l c n => exact .dic (t _ (by simp) a) (k _ (by simp) _ b) l (OwL.step e (fun x hx => k x (List.mem_cons_of_mem _ hx)) (fun x hx => t x (List.mem_cons_of_mem _ hx)) c) n
  | .ins C ns os, _, _, k, t, h => by cases h with | ins a b l c n => exact .ins (t _ (by simp) a) (k _ (by simp) _ b) l (OwL.step e (fun x hx => k x (List.mem_cons_of_mem _ hx)) (fun x hx => t x (List.mem_cons_of_mem _ hx)) c) n
theorem OwL.step (e : Ex (hid T H) (hid T' H')) : ∀ {os : List O} {vs : List V} {fp : List Addr}, (∀ a ∈ fp, ∀ u, H a = some u → H' a = some u) → (∀ a ∈ fp, T a → T' a) → OwL K T H os vs fp → OwL K T' H' os vs fp
  | [], _, _, _, _, h => by cases h; exact .nil
  | o :: os, _, _, k, t, h => by cases h with
    | cons a b d => exact .cons (Ow.step e (fun x hx => k x (List.mem_append_left _ hx)) (fun x hx => t x (List.mem_append_left _ hx)) a) (OwL.step e (fun x hx => k x (List.mem_append_right _ hx)) (fun x hx => t x (List.mem_append_right _ hx)) b) d
end
end
section
variable {K : PySem.W.Frag} {T : Addr → Prop} {H : Hp}
mutual
theorem Ow.sub : ∀ {o : O} {v : V} {fp : List Addr}, Ow K T H o v fp → ∀ a ∈ fp, T a
  | .f d, _, _, h => by cases h with | f a => intro x hx; cases hx
  | .lst ds, _, _, h => by cases h with | lst a b c => intro x hx; rw [List.mem_singleton.mp hx]; exact a
  | .dic ks os, _, _, h => by cases h with
    | dic a b l c n =>
      intro x hx
      rcases List.mem_cons.mp hx with rfl | hx
      · exact a
      · exact OwL.sub c x hx
  | .ins C ns os, _, _, h => by cases h with
    | ins a b l c n =>
      intro x hx
      rcases List.mem_cons.mp hx with rfl | hx
      · exact a
      · exact OwL.sub c x hx
theorem OwL.sub : ∀ {os : List O} {vs : List V} {fp : List Addr}, OwL K T H os vs fp → ∀ a ∈ fp, T a
  | [], _, _, h => by cases h; intro x hx; cases hx
  | o :: os, _, _, h => by cases h with
    | cons a b d =>
      intro x hx
      rcases List.mem_append.mp hx with hx | hx
      · exact Ow.sub a x hx
      · exact OwL.sub b x hx
end
end
def SlR (G : Gx) (T : Addr → Prop) (H : Hp) : Sl → V → List Addr → Prop
  | .f d, v, fp => Fz G.K (hid T H) v d ∧ fp = []
  | .own o, v, fp => Ow G.K T H o v fp
  | .vw o, v, fp => Ow G.K T H o v fp
def IsOwn (env : Env) (i : Nat) : Prop := ∃ o, env[i]? = some (some (.own o))
def IsS (env : Env) (i : Nat) : Prop := ∃ s, env[i]? = some (some s)
/-- what the frame may change -/
def OwnP (env : Env) (F : Nat → List Addr) (a : Addr) : Prop := ∃ i, IsOwn env i ∧ a ∈ F i
structure RE (G : Gx) (T : Addr → Prop) (H : Hp) (σ : L2.St) (env : Env) (F : Nat → List Addr) : Prop where
  trk : Trk T H
  tab : ∀ p ∈ G.tabs, H p = some (TabO p) ∧ ¬ T p
  slot : ∀ i s, env[i]? = some (some s) → ∃ v, σ[i]? = some (some v) ∧ SlR G T H s v (F i)
  dis : ∀ i j, i ≠ j → IsOwn env i → IsS env j → ∀ a ∈ F i, a ∉ F j
  st : Chg G.T0 G.H0 G.P0 T H
  ow : ∀ a, OwnP env F a → G.P0 a ∨ G.H0 a = none
  t0 : Trk G.T0 G.H0
  pin : ∀ i, G.prot i = true → σ[i]? = G.σ0[i]?
  len : env.length = σ.length
  hx : Ex G.hx (hid T H)
section
variable {G : Gx} {T T1 T2 : Addr → Prop} {H H1 H2 : Hp} {σ : L2.St} {env env1 env2 : Env} {F F1 F2 : Nat → List Addr} {s : Sl} {v : V} {fp : List Addr}
theorem SlR.sub (h : SlR G T H s v fp) : ∀ a ∈ fp, T a := by
  cases s with
  | f d => obtain ⟨_, rfl⟩ := h; intro a ha; cases ha
  | own o => exact Ow.sub h
  | vw o => exact Ow.sub h
theorem SlR.step (e : Ex (hid T H) (hid T1 H1)) (k : ∀ a ∈ fp, ∀ u, H a = some u → H1 a = some u) (t : ∀ a ∈ fp, T a → T1 a) (h : SlR G T H s v fp) : SlR G T1 H1 s v fp := by
  cases s with
  | f d => exact ⟨h.1.ex e, h.2⟩
  | own o => exact Ow.step e k t h
  | vw o => exact Ow.step e k t h
theorem RE.sub (r : RE G T H σ env F) : Sub T (OwnP env F) := fun a ⟨i, ⟨o, hi⟩, ha⟩ => by
  obtain ⟨v, _, q⟩ := r.slot i _ hi
  exact SlR.sub q a ha
theorem SlR.chg {P : Addr → Prop} (c : Chg T H P T1 H1) (s0 : Sub T P) (n : ∀ a ∈ fp, ¬ P a) (h : SlR G T H s v fp) : SlR G T1 H1 s v fp :=
  h.step (c.hid s0) (fun a ha u e => c.keep a u e (n a ha)) (fun a ha e => c.tk a e (n a ha))
/-- a change elsewhere -/
theorem RE.chg {P : Addr → Prop} (r : RE G T H σ env F) (c : Chg T H P T1 H1) (s0 : Sub T P) (hp : ∀ a, P a → G.P0 a ∨ G.H0 a = none) (n : ∀ i, IsS env i → ∀ a ∈ F i, ¬ P a) : RE G T1 H1 σ env F where
  trk := c.tr
  tab := fun p hp => by
    obtain ⟨h1, h2⟩ := r.tab p hp
    refine ⟨c.keep p _ h1 fun z => h2 (s0 p z), fun z => ?_⟩
    rcases c.tf p z with z | z
    · exact h2 z
    · rw [h1] at z; cases z
  slot := fun i s hi => by
    obtain ⟨v, h1, h2⟩ := r.slot i s hi
    exact ⟨v, h1, h2.chg c s0 (n i ⟨s, hi⟩)⟩
  dis := r.dis
  st := r.st.trans r.t0 c hp
  ow := r.ow
  t0 := r.t0
  pin := r.pin
  len := r.len
  hx := r.hx.trans (c.hid s0)
end
def upF (F : Nat → List Addr) (i : Nat) (fr : List Addr) (j : Nat) : List Addr := if j = i then fr else F j
theorem upF_same {F : Nat → List Addr} {i : Nat} {fr : List Addr} : upF F i fr i = fr := if_pos rfl
theorem upF_ne {F : Nat → List Addr} {i j : Nat} {fr : List Addr} (h : j ≠ i) : upF F i fr j = F j := if_neg h
/-- from a state of the frame to a later one -/
structure Att (G : Gx) (σ : L2.St) (T0 : Addr → Prop) (H0 : Hp) (env0 : Env) (F0 : Nat → List Addr) (T : Addr → Prop) (H : Hp) (env : Env) (F : Nat → List Addr) : Prop where
  chg : Chg T0 H0 (OwnP env0 F0) T H
  re : RE G T H σ env F
  own : ∀ a, OwnP env F a → OwnP env0 F0 a ∨ H0 a = none
  vw : ∀ i o, env[i]? = some (some (.vw o)) → env0[i]? = some (some (.vw o)) ∧ F i = F0 i
section
variable {G : Gx} {T T1 T2 : Addr → Prop} {H H1 H2 : Hp} {σ : L2.St} {env env1 env2 : Env} {F F1 F2 : Nat → List Addr} {s : Sl} {v : V} {fp : List Addr}
theorem Att.refl (r : RE G T H σ env F) : Att G σ T H env F T H env F := ⟨.refl r.trk, r, fun _ h => .inl h, fun _ _ h => ⟨h, rfl⟩⟩
theorem Att.trans (t : Trk T H) (a : Att G σ T H env F T1 H1 env1 F1) (b : Att G σ T1 H1 env1 F1 T2 H2 env2 F2) : Att G σ T H env F T2 H2 env2 F2 := by
  refine ⟨a.chg.trans t b.chg a.own, b.re, fun x hx => ?_, fun i o h => by
    obtain ⟨h1, e1⟩ := b.vw i o h
    obtain ⟨h2, e2⟩ := a.vw i o h1
    exact ⟨h2, e1.trans e2⟩⟩
  rcases b.own x hx with z | z
  · exact a.own x z
  · refine .inr ?_
    cases e : H x with
    | none => rfl
    | some o => exact absurd z (a.chg.dom x (by rw [e]; exact nofun))
end
end Fx

namespace Fx
open PySem PySem.Spec PyProof.Rows L2 Evl Lk

/-- a value whose own list or dict may be owned, its items are not -/
def Cz (K : PySem.W.Frag) (T : Addr → Prop) (H : Hp) (v : V) : D → Prop
  | .lst ds => ∃ a vs, v = .ref a ∧ SqL K H a vs ∧ FzL K (hid T H) vs ds
  | .dic ks ds => ∃ a vs, v = .ref a ∧ Rd H a (.dK (ks.zip vs)) ∧ ks.length = vs.length ∧ FzL K (hid T H) vs ds
  | d => Fz K (hid T H) v d
def O.fds : List O → Option (List D)
  | [] => some []
  | .f d :: os => (O.fds os).map (d :: ·)
  | _ :: _ => none
def O.cd : O → Option D
  | .f d => some d
  | .lst ds => some (.lst ds)
  | .dic ks os => (O.fds os).map (.dic ks)
  | .ins _ _ _ => none
def Sl.cd : Sl → Option D
  | .f d => some d
  | .own o => o.cd
  | .vw o => o.cd
section
variable {K : PySem.W.Frag} {T : Addr → Prop} {H H' : Hp} {v : V} {d : D}
theorem Cz.of (h : Fz K (hid T H) v d) : Cz K T H v d := by
  cases h with
  | lst a b => exact ⟨_, _, rfl, ex_l hid_ex a, b⟩
  | dic a l b => exact ⟨_, _, rfl, ex_rd hid_ex a, l, b⟩
  | non => exact .non
  | bl b => exact .bl b
  | int i => exact .int i
  | str x => exact .str x
  | ty n => exact .ty n
  | cls C => exact .cls C
  | exc a b => exact .exc a b
  | tup a b => exact .tup a b
theorem OwL.fds : ∀ {os : List O} {vs : List V} {fp : List Addr} {ds : List D}, OwL K T H os vs fp → O.fds os = some ds → FzL K (hid T H) vs ds
  | [], _, _, _, h, e => by
    cases h
    cases e
    exact .nil
  | o :: os, _, _, _, h, e => by
    cases h with
    | cons a b _ =>
      cases o with
      | f d =>
        cases a with
        | f a =>
          cases e2 : O.fds os with
          | none => unfold O.fds at e; rw [e2] at e; cases e
          | some es =>
            unfold O.fds at e
            rw [e2] at e
            cases e
            exact .cons a (OwL.fds b e2)
      | _ => cases e
theorem Ow.cz {o : O} {fp : List Addr} (h : Ow K T H o v fp) (e : o.cd = some d) : Cz K T H v d := by
  cases h with
  | f a => cases e; exact .of a
  | lst a b c => cases e; exact ⟨_, _, rfl, SqL.of b, c⟩
  | dic a b l c n =>
    rename_i os _
    have e : (O.fds os).map (D.dic _) = some d := e
    cases e2 : O.fds os with
    | none => rw [e2] at e; cases e
    | some es =>
      rw [e2] at e
      cases e
      exact ⟨_, _, rfl, .inl b, l, c.fds e2⟩
  | ins => cases e
theorem SlR.cz {G : Gx} {s : Sl} {fp : List Addr} (h : SlR G T H s v fp) (e : s.cd = some d) : Cz G.K T H v d := by
  cases s with
  | f d => cases e; exact .of h.1
  | own o => exact Ow.cz h e
  | vw o => exact Ow.cz h e
theorem Cz.fz (h : Cz K T H v d) : Fz K H v d := by
  cases d with
  | lst ds => obtain ⟨a, vs, rfl, b, c⟩ := h; exact .lst b (c.ex hid_ex)
  | dic ks ds => obtain ⟨a, vs, rfl, b, l, c⟩ := h; exact .dic b l (c.ex hid_ex)
  | non => exact Fz.ex hid_ex h
  | bl _ => exact Fz.ex hid_ex h
  | int _ => exact Fz.ex hid_ex h
  | str _ => exact Fz.ex hid_ex h
  | ty _ => exact Fz.ex hid_ex h
  | tup _ => exact Fz.ex hid_ex h
end

/-! ### readings -/
abbrev WE := Env → (Sl → Env → Prop) → Prop
abbrev WP := Env → (Sl → Prop) → Prop
abbrev WT := Env → (Bool → Env → Prop) → Prop
/-- an argument: a value, or a slot that is handed on (owned, or to be looked at) -/
inductive Ag where
  | v (s : Sl) | slot (i : Nat) (own : Bool)
abbrev WA := Env → (List Ag → Env → Prop) → Prop
structure WEnds where
  nx : Env → Prop
  rt : Sl → Env → Prop
  bk : Env → Prop := fun _ => False
  ct : Env → Prop := fun _ => False
abbrev WS := WEnds → Env → Prop
structure WEnds.Le (D D' : WEnds) : Prop where
  nx : ∀ e, D.nx e → D'.nx e
  rt : ∀ s e, D.rt s e → D'.rt s e
  bk : ∀ e, D.bk e → D'.bk e
  ct : ∀ e, D.ct e → D'.ct e
def MonoE (w : WE) : Prop := ∀ env (Q Q' : Sl → Env → Prop), (∀ r e, Q r e → Q' r e) → w env Q → w env Q'
def MonoP (w : WP) : Prop := ∀ env (Q Q' : Sl → Prop), (∀ r, Q r → Q' r) → w env Q → w env Q'
def MonoT (w : WT) : Prop := ∀ env (Q Q' : Bool → Env → Prop), (∀ r e, Q r e → Q' r e) → w env Q → w env Q'
def MonoA (w : WA) : Prop := ∀ env (Q Q' : List Ag → Env → Prop), (∀ r e, Q r e → Q' r e) → w env Q → w env Q'
def MonoS (w : WS) : Prop := ∀ (D D' : WEnds) env, D.Le D' → w D env → w D' env

/-- a result: what is owned of it stands apart -/
structure Res (G : Gx) (T0 : Addr → Prop) (H0 : Hp) (env0 : Env) (F0 : Nat → List Addr) (T : Addr → Prop) (H : Hp) (env : Env) (F : Nat → List Addr) (r : Sl) (v : V) (fr : List Addr) : Prop where
  rel : SlR G T H r v fr
  dis : ∀ o, r = .own o → ∀ i, IsS env i → ∀ a ∈ fr, a ∉ F i
  from_ : ∀ o, r = .own o → ∀ a ∈ fr, OwnP env0 F0 a ∨ H0 a = none
def tW (G : Gx) (w : WE) : TE := fun σ H Q => ∃ T env F, RE G T H σ env F ∧ w env fun r env' => ∀ v T' H' F' fr, Att G σ T H env F T' H' env' F' → Res G T H env F T' H' env' F' r v fr → Q v H'
def tWP (G : Gx) (w : WP) : TE := fun σ H Q => ∃ T env F, RE G T H σ env F ∧ w env fun r => ∀ v H' fr, Ex H H' → RE G T H' σ env F → SlR G T H' r v fr → (∀ o, r ≠ .own o) → Q v H'
def tWT (G : Gx) (w : WT) : TT := fun σ H Q => ∃ T env F, RE G T H σ env F ∧ w env fun b env' => ∀ T' H' F', Att G σ T H env F T' H' env' F' → Q b H'
structure GE (X : Cx) (G : Gx) (e : Expr) (w : WE) : Prop where
  pe : PE X e (tW G w)
  mono : MonoE w
structure GP (X : Cx) (G : Gx) (e : Expr) (w : WP) : Prop where
  pe : PE X e (tWP G w)
  mono : MonoP w
structure GT (X : Cx) (G : Gx) (e : Expr) (w : WT) : Prop where
  pt : PT X e (tWT G w)
  mono : MonoT w
section
variable {X : Cx} {e : Expr}
theorem pe_imp {t t' : TE} (h : PE X e t) (i : ∀ σ H Q, t' σ H Q → t σ H Q) : PE X e t' := ⟨fun pins s σ H Q I q => h.run pins s σ H Q I (i σ H Q q)⟩
theorem pt_imp {t t' : TT} (h : PT X e t) (i : ∀ σ H Q, t' σ H Q → t σ H Q) : PT X e t' := ⟨fun pins s σ H Q I q => h.run pins s σ H Q I (i σ H Q q)⟩
theorem pa_imp {es : List Expr} {t t' : TA} (h : PA X es t) (i : ∀ σ H Q, t' σ H Q → t σ H Q) : PA X es t' := ⟨fun pos pins s σ H Q I q => h.run pos pins s σ H Q I (i σ H Q q)⟩
theorem ps_imp {st : Stmt} {t t' : TS} (h : PS X st t) (i : ∀ D σ H, t' D σ H → t D σ H) : PS X st t' := ⟨fun pins s σ H D I q => h.run pins s σ H D I (i D σ H q)⟩
theorem pss_imp {st : List Stmt} {t t' : TS} (h : PSs X st t) (i : ∀ D σ H, t' D σ H → t D σ H) : PSs X st t' := ⟨fun pins s σ H D I q => h.run pins s σ H D I (i D σ H q)⟩
end
section
variable {G : Gx} {T T' : Addr → Prop} {H H' : Hp} {σ : L2.St} {env : Env} {F : Nat → List Addr} {s : Sl} {v : V} {fr : List Addr}
theorem ex_dom (e : Ex H H') : ∀ a, H a ≠ none → H' a ≠ none := fun a h => by
  cases q : H a with
  | none => exact absurd q h
  | some o => rw [e a o q]; exact nofun
theorem RE.ex (r : RE G T H σ env F) (e : Ex H H') : RE G T H' σ env F :=
  r.chg (P := fun _ => False) ⟨fun a o h _ => e a o h, fun _ h _ => h, fun _ h => .inl h, fun a h => ex_dom e a (r.trk a h), ex_dom e⟩ (fun _ h => h.elim) (fun _ h => h.elim) fun _ _ _ _ h => h
theorem Att.ex (r : RE G T H σ env F) (e : Ex H H') : Att G σ T H env F T H' env F :=
  ⟨⟨fun a o h _ => e a o h, fun _ h _ => h, fun _ h => .inl h, fun a h => ex_dom e a (r.trk a h), ex_dom e⟩, r.ex e, fun _ h => .inl h, fun _ _ h => ⟨h, rfl⟩⟩
theorem hid_mono (e : Ex H H') : Ex (hid T H) (hid T H') := fun a o h => hid_of (e a o (hid_some h).1) (hid_some h).2
/-- a value is kept while the frame goes on -/
theorem Fz.att {T0 : Addr → Prop} {H0 : Hp} {env0 env1 : Env} {F0 F1 : Nat → List Addr} {d : D} (r : RE G T0 H0 σ env0 F0) (a : Att G σ T0 H0 env0 F0 T H env1 F1) (h : Fz G.K (hid T0 H0) v d) : Fz G.K (hid T H) v d := h.ex (a.chg.hid r.sub)
theorem GE.of_pure {X : Cx} {e : Expr} {w : WP} (h : GP X G e w) : GE X G e (fun env Q => w env fun r => Q r env) := by
  refine ⟨pe_imp h.pe fun σ H Q ⟨T, env, F, r, q⟩ => ⟨T, env, F, r, h.mono env _ _ (fun s q v H' fr e r' rel no => ?_) q⟩, fun env Q Q' i q => h.mono env _ _ (fun s z => i s env z) q⟩
  exact q v T H' F fr (Att.ex r e) ⟨rel, fun o z => absurd z (no o), fun o z => absurd z (no o)⟩
end

/-! ### names, constants -/
def wVar (i : Nat) : WP := fun env Q => match env[i]? with
  | some (some (.f d)) => Q (.f d)
  | some (some (.own o)) => Q (.vw o)
  | some (some (.vw o)) => Q (.vw o)
  | _ => False
def wC (d : D) : WP := fun _ Q => Q (.f d)
section
variable {X : Cx} {G : Gx} {e : Expr}
theorem gp_var {i : Nat} (h : PE X e (tVar i)) : GP X G e (wVar i) := by
  refine ⟨pe_imp h fun σ H Q ⟨T, env, F, r, q⟩ => ?_, fun env Q Q' i q => ?_⟩
  · unfold wVar at q
    split at q
    · rename_i d hd
      obtain ⟨v, h1, h2⟩ := r.slot i _ hd
      exact ⟨v, h1, q v H _ (Ex.refl H) r h2 nofun⟩
    · rename_i o ho
      obtain ⟨v, h1, h2⟩ := r.slot i _ ho
      exact ⟨v, h1, q v H _ (Ex.refl H) r h2 nofun⟩
    · rename_i o ho
      obtain ⟨v, h1, h2⟩ := r.slot i _ ho
      exact ⟨v, h1, q v H _ (Ex.refl H) r h2 nofun⟩
    · exact q.elim
  · unfold wVar at q ⊢
    split <;> simp_all
theorem gp_c {d : D} {v : V} (h : PE X e (tC v)) (r : ∀ K H, Fz K H v d) : GP X G e (wC d) := by
  refine ⟨pe_imp h fun σ H Q ⟨T, env, F, r', q⟩ => ?_, fun env Q Q' i q => i _ q⟩
  exact q v H [] (Ex.refl H) r' ⟨r _ _, rfl⟩ nofun
theorem gp_int {i : Int} {j pos} : GP X G (.Constant (.int i) j pos) (wC (.int i)) := gp_c pe_int fun _ _ => .int i
theorem gp_bl {b j pos} : GP X G (.Constant (.bool b) j pos) (wC (.bl b)) := gp_c pe_bl fun _ _ => .bl b
theorem gp_non {j pos} : GP X G (.Constant .none j pos) (wC .non) := gp_c pe_non fun _ _ => .non
theorem gp_str {x j pos} : GP X G (.Constant (.str x) j pos) (wC (.str x)) := gp_c pe_str fun _ _ => .str x
/-- a module's name -/
theorem gp_glob {x : Str} {d : D} {v : V} {pos : Pos} (h : PE X (.Name x pos) (tC v)) (r : ∀ H, Fz G.K H v d) : GP X G (.Name x pos) (wC d) := by
  refine ⟨pe_imp h fun σ H Q ⟨T, env, F, r', q⟩ => ?_, fun env Q Q' i q => i _ q⟩
  exact q v H [] (Ex.refl H) r' ⟨r _, rfl⟩ nofun

/-! ### two values -/
abbrev Op2 := D → D → (D → Prop) → Prop
def MonoO (o : Op2) : Prop := ∀ a b (Q Q' : D → Prop), (∀ d, Q d → Q' d) → o a b Q → o a b Q'
/-- the reading of an operation of two values -/
def rO (G : Gx) (o : Op2) : R2 := fun x y H Q => ∃ T d1 d2, Trk T H ∧ Cz G.K T H x d1 ∧ Cz G.K T H y d2 ∧ o d1 d2 fun d => ∀ v H', Ex H H' → Fz G.K (hid T H') v d → Q v H'
structure OpX (X : Cx) (G : Gx) (f : Value → Value → Sem Value) (o : Op2) : Prop where
  ok : OpR X f (rO G o)
  mono : MonoO o
def wBin (o : Op2) (w1 w2 : WE) : WE := fun env Q => w1 env fun r1 e1 => ∃ d1, r1 = .f d1 ∧ w2 e1 fun r2 e2 => ∃ d2, r2.cd = some d2 ∧ o d1 d2 fun d => Q (.f d) e2
def wBinP (o : Op2) (w1 w2 : WP) : WP := fun env Q => w1 env fun r1 => ∃ d1, r1.cd = some d1 ∧ w2 env fun r2 => ∃ d2, r2.cd = some d2 ∧ o d1 d2 fun d => Q (.f d)
theorem Cz.ex {K : PySem.W.Frag} {T : Addr → Prop} {H H' : Hp} {v : V} {d : D} (h : Cz K T H v d) (e : Ex H H') : Cz K T H' v d := by
  cases d with
  | lst ds => obtain ⟨a, vs, rfl, b, c⟩ := h; exact ⟨a, vs, rfl, ex_l e b, c.ex (hid_mono e)⟩
  | dic ks ds => obtain ⟨a, vs, rfl, b, l, c⟩ := h; exact ⟨a, vs, rfl, ex_rd e b, l, c.ex (hid_mono e)⟩
  | non => exact Fz.ex (hid_mono e) h
  | bl _ => exact Fz.ex (hid_mono e) h
  | int _ => exact Fz.ex (hid_mono e) h
  | str _ => exact Fz.ex (hid_mono e) h
  | ty _ => exact Fz.ex (hid_mono e) h
  | tup _ => exact Fz.ex (hid_mono e) h
variable {a b : Expr} {w1 w2 : WE} {v1 v2 : WP} {o : Op2} {f : Value → Value → Sem Value}
theorem binW (ma : MonoE w1) (mb : MonoE w2) (mo : MonoO o) {σ : L2.St} {H : Hp} {Q : VK} (h : tW G (wBin o w1 w2) σ H Q) : tOp (rO G o) (tW G w1) (tW G w2) σ H Q := by
  obtain ⟨T, env, F, r, q⟩ := h
  refine ⟨T, env, F, r, ma env _ _ (fun r1 e1 ⟨d1, e, q⟩ v1 T1 H1 F1 f1 a1 z1 => ?_) q⟩
  subst e
  refine ⟨T1, e1, F1, a1.re, mb e1 _ _ (fun r2 e2 ⟨d2, hd, q⟩ v2 T2 H2 F2 f2 a2 z2 => ?_) q⟩
  refine ⟨T2, d1, d2, a2.re.trk, Cz.of (Fz.att a1.re a2 z1.rel.1), z2.rel.cz hd, mo _ _ _ _ (fun d q v H3 e3 fz => ?_) q⟩
  exact q v T2 H3 F2 [] ((a1.trans r.trk a2).trans r.trk (Att.ex a2.re e3)) ⟨⟨fz, rfl⟩, nofun, nofun⟩
theorem monoBin (ma : MonoE w1) (mb : MonoE w2) (mo : MonoO o) : MonoE (wBin o w1 w2) := fun env Q Q' i q =>
  ma env _ _ (fun r1 e1 ⟨d1, e, q⟩ => ⟨d1, e, mb e1 _ _ (fun r2 e2 ⟨d2, hd, q⟩ => ⟨d2, hd, mo _ _ _ _ (fun d q => i _ _ q) q⟩) q⟩) q
theorem binP (ma : MonoP v1) (mb : MonoP v2) (mo : MonoO o) {σ : L2.St} {H : Hp} {Q : VK} (h : tWP G (wBinP o v1 v2) σ H Q) : tOp (rO G o) (tWP G v1) (tWP G v2) σ H Q := by
  obtain ⟨T, env, F, r, q⟩ := h
  refine ⟨T, env, F, r, ma env _ _ (fun r1 ⟨d1, e, q⟩ v1 H1 f1 x1 r1' z1 n1 => ?_) q⟩
  refine ⟨T, env, F, r1', mb env _ _ (fun r2 ⟨d2, hd, q⟩ v2 H2 f2 x2 r2' z2 n2 => ?_) q⟩
  refine ⟨T, d1, d2, r2'.trk, (z1.cz e).ex x2, z2.cz hd, mo _ _ _ _ (fun d q v H3 e3 fz => ?_) q⟩
  exact q v H3 [] (x1.trans (x2.trans e3)) (r2'.ex e3) ⟨fz, rfl⟩ nofun
theorem monoBinP (ma : MonoP v1) (mb : MonoP v2) (mo : MonoO o) : MonoP (wBinP o v1 v2) := fun env Q Q' i q =>
  ma env _ _ (fun r1 ⟨d1, e, q⟩ => ⟨d1, e, mb env _ _ (fun r2 ⟨d2, hd, q⟩ => ⟨d2, hd, mo _ _ _ _ (fun d q => i _ q) q⟩) q⟩) q
theorem ge_op {op : Operator} {pos : Pos} (ho : OpX X G (binaryOp op) o) (ha : GE X G a w1) (hb : GE X G b w2) : GE X G (.BinOp a op b pos) (wBin o w1 w2) :=
  ⟨pe_imp (pe_op ho.ok ha.pe hb.pe) fun _ _ _ h => binW ha.mono hb.mono ho.mono h, monoBin ha.mono hb.mono ho.mono⟩
theorem gp_op {op : Operator} {pos : Pos} (ho : OpX X G (binaryOp op) o) (ha : GP X G a v1) (hb : GP X G b v2) : GP X G (.BinOp a op b pos) (wBinP o v1 v2) :=
  ⟨pe_imp (pe_op ho.ok ha.pe hb.pe) fun _ _ _ h => binP ha.mono hb.mono ho.mono h, monoBinP ha.mono hb.mono ho.mono⟩
theorem ge_cmp {op : CmpOp} {pos : Pos} (ho : OpX X G (compareOp op) o) (ha : GE X G a w1) (hb : GE X G b w2) (hm : behindInMarks op b = false) : GE X G (.Compare a [op] [b] pos) (wBin o w1 w2) :=
  ⟨pe_imp (pe_cmpR ho.ok ha.pe hb.pe hm) fun _ _ _ h => binW ha.mono hb.mono ho.mono h, monoBin ha.mono hb.mono ho.mono⟩
theorem gp_cmp {op : CmpOp} {pos : Pos} (ho : OpX X G (compareOp op) o) (ha : GP X G a v1) (hb : GP X G b v2) (hm : behindInMarks op b = false) : GP X G (.Compare a [op] [b] pos) (wBinP o v1 v2) :=
  ⟨pe_imp (pe_cmpR ho.ok ha.pe hb.pe hm) fun _ _ _ h => binP ha.mono hb.mono ho.mono h, monoBinP ha.mono hb.mono ho.mono⟩
/-- x[i] by values -/
structure IxX (X : Cx) (G : Gx) (o : Op2) : Prop where
  ok : IxR X (rO G o)
  mono : MonoO o
theorem ge_ix {pos : Pos} (ho : IxX X G o) (ha : GE X G a w1) (hb : GE X G b w2) (hs : PlainIx b) : GE X G (.Subscript a b pos) (wBin o w1 w2) :=
  ⟨pe_imp (pe_ix ho.ok ha.pe hb.pe hs) fun _ _ _ h => binW ha.mono hb.mono ho.mono h, monoBin ha.mono hb.mono ho.mono⟩
theorem gp_ix {pos : Pos} (ho : IxX X G o) (ha : GP X G a v1) (hb : GP X G b v2) (hs : PlainIx b) : GP X G (.Subscript a b pos) (wBinP o v1 v2) :=
  ⟨pe_imp (pe_ix ho.ok ha.pe hb.pe hs) fun _ _ _ h => binP ha.mono hb.mono ho.mono h, monoBinP ha.mono hb.mono ho.mono⟩
end
end Fx

namespace Fx
open PySem PySem.Spec PyProof.Rows L2 Evl Lk

/-! ### tests -/
def dTru : D → (Bool → Prop) → Prop
  | .non, Q => Q false
  | .bl b, Q => Q b
  | .int i, Q => Q (i != 0)
  | .str x, Q => x.length ≤ sizeLine ∧ Q ((x.length : Int) != 0)
  | .lst ds, Q => Q (!ds.isEmpty)
  | .tup ds, Q => Q (!ds.isEmpty)
  | _, _ => False
def wTru (w : WE) : WT := fun env Q => w env fun r e => ∃ d, r.cd = some d ∧ dTru d fun b => Q b e
def wTB (w : WE) : WT := fun env Q => w env fun r e => ∃ b, r = .f (.bl b) ∧ Q b e
def wAnd (t u : WT) : WT := fun env Q => t env fun c e => if c = true then u e Q else Q false e
def wOr (t u : WT) : WT := fun env Q => t env fun c e => if c = true then Q true e else u e Q
def wNot (t : WT) : WT := fun env Q => t env fun c e => Q (!c) e
def wAndV (t u : WE) : WE := fun env Q => t env fun r e => ∃ b, r = .f (.bl b) ∧ if b = true then u e Q else Q (.f (.bl false)) e
def wOrV (t u : WE) : WE := fun env Q => t env fun r e => ∃ b, r = .f (.bl b) ∧ if b = true then Q (.f (.bl true)) e else u e Q
def wNotV (t : WE) : WE := fun env Q => t env fun r e => ∃ b, r = .f (.bl b) ∧ Q (.f (.bl (!b))) e
section
variable {X : Cx} {G : Gx} {a b c : Expr} {rest : List Expr} {pos : Pos} {t u : WT} {w1 w2 w3 : WE}
theorem FzL.emp {K : PySem.W.Frag} {H : Hp} {vs : List V} {ds : List D} (h : FzL K H vs ds) : (!ds.isEmpty) = (!vs.isEmpty) := by
  cases h <;> rfl
theorem tru_of {K : PySem.W.Frag} {T : Addr → Prop} {H : Hp} {v : V} {d : D} {Q : Bool → Prop} (h : Cz K T H v d) (q : dTru d Q) : ∃ k, TruV K v H k ∧ Q k := by
  cases d with
  | non => cases h; exact ⟨false, rfl, q⟩
  | bl b => cases h; exact ⟨b, rfl, q⟩
  | int i => cases h; exact ⟨_, rfl, q⟩
  | str x => cases h; exact ⟨_, ⟨q.1, rfl⟩, q.2⟩
  | ty n => exact q.elim
  | dic ks ds => exact q.elim
  | lst ds =>
    obtain ⟨a, vs, rfl, h1, h2⟩ := h
    have q' : Q (!ds.isEmpty) := q
    rw [h2.emp] at q'
    exact ⟨_, .inl ⟨vs, h1, rfl⟩, q'⟩
  | tup ds =>
    cases h with
    | tup h1 h2 =>
      have q' : Q (!ds.isEmpty) := q
      rw [h2.emp] at q'
      exact ⟨_, .inr (.inl ⟨_, ex_t hid_ex h1, rfl⟩), q'⟩
theorem dTru_mono {d : D} {Q Q' : Bool → Prop} (i : ∀ b, Q b → Q' b) (q : dTru d Q) : dTru d Q' := by
  cases d <;> first | exact i _ q | exact q.elim | exact ⟨q.1, i _ q.2⟩
theorem gt_tru (h : GE X G a w1) (hK : X.K = G.K := by rfl) (he : ∀ whole, isTrue a X.env whole = (do let v ← whole; standAt a.pos; holding [v] (truthy v)) := by intro _; rfl) : GT X G a (wTru w1) := by
  refine ⟨pt_imp (pt_truth h.pe he) fun σ H Q ⟨T, env, F, r, q⟩ => ⟨T, env, F, r, h.mono env _ _ (fun s e ⟨d, hd, q⟩ v T' H' F' fr a z => ?_) q⟩, fun env Q Q' i q => h.mono env _ _ (fun s e ⟨d, hd, q⟩ => ⟨d, hd, dTru_mono (fun b z => i b e z) q⟩) q⟩
  obtain ⟨k, h1, h2⟩ := tru_of (z.rel.cz hd) q
  exact ⟨k, hK ▸ h1, h2 T' H' F' a⟩
theorem gt_b (h : GE X G a w1) (he : ∀ whole, isTrue a X.env whole = (do let v ← whole; standAt a.pos; holding [v] (truthy v)) := by intro _; rfl) : GT X G a (wTB w1) := by
  refine ⟨pt_imp (pt_val h.pe he) fun σ H Q ⟨T, env, F, r, q⟩ => ⟨T, env, F, r, h.mono env _ _ (fun s e ⟨b, hb, q⟩ v T' H' F' fr a z => ?_) q⟩, fun env Q Q' i q => h.mono env _ _ (fun s e ⟨b, hb, q⟩ => ⟨b, hb, i _ _ q⟩) q⟩
  subst hb
  obtain ⟨h1, _⟩ := z.rel
  cases h1
  exact ⟨_, rfl, q T' H' F' a⟩
/-- a comparison as a test -/
theorem gt_cmp {op : CmpOp} {o : Op2} (ho : OpX X G (compareOp op) o) (ha : GE X G a w1) (hb : GE X G b w2) (hm : behindInMarks op b = false) : GT X G (.Compare a [op] [b] pos) (wTB (wBin o w1 w2)) := by
  have m := monoBin ha.mono hb.mono ho.mono
  refine ⟨pt_imp (pt_cmpR ho.ok ha.pe hb.pe hm) fun σ H Q ⟨T, env, F, r, q⟩ => ?_, fun env Q Q' i q => m env _ _ (fun s e ⟨b, hb, q⟩ => ⟨b, hb, i _ _ q⟩) q⟩
  refine binW ha.mono hb.mono ho.mono ⟨T, env, F, r, m env _ _ (fun s e ⟨b, hb, q⟩ v T' H' F' fr a z => ?_) q⟩
  subst hb
  obtain ⟨h1, _⟩ := z.rel
  cases h1
  exact ⟨_, rfl, q T' H' F' a⟩
theorem gt_cmpP {op : CmpOp} {o : Op2} {v1 v2 : WP} (ho : OpX X G (compareOp op) o) (ha : GP X G a v1) (hb : GP X G b v2) (hm : behindInMarks op b = false) : GT X G (.Compare a [op] [b] pos) (fun env Q => wBinP o v1 v2 env fun r => ∃ c, r = .f (.bl c) ∧ Q c env) := by
  have m := monoBinP ha.mono hb.mono ho.mono
  refine ⟨pt_imp (pt_cmpR ho.ok ha.pe hb.pe hm) fun σ H Q ⟨T, env, F, r, q⟩ => ?_, fun env Q Q' i q => m env _ _ (fun s ⟨b, hb, q⟩ => ⟨b, hb, i _ _ q⟩) q⟩
  refine binP ha.mono hb.mono ho.mono ⟨T, env, F, r, m env _ _ (fun s ⟨c, hc, q⟩ v H' fr e r' rel no => ?_) q⟩
  subst hc
  obtain ⟨h1, _⟩ := rel
  cases h1
  exact ⟨_, rfl, q T H' F (Att.ex r e)⟩
structure GW (X : Cx) (G : Gx) (e : Expr) (w : WT) : Prop where
  pw : PW X e (tWT G w)
  mono : MonoT w
theorem pw_imp {e : Expr} {t t' : TT} (h : PW X e t) (i : ∀ σ H Q, t' σ H Q → t σ H Q) : PW X e t' := ⟨fun wh pins s σ H Q I q => h.run wh pins s σ H Q I (i σ H Q q)⟩
theorem gw_and1 (h : GT X G a t) : GW X G (.BoolOp .And [a] pos) t := ⟨pw_and1 h.pt, h.mono⟩
theorem gw_or1 (h : GT X G a t) : GW X G (.BoolOp .Or [a] pos) t := ⟨pw_or1 h.pt, h.mono⟩
theorem GW.gt {e : Expr} (h : GW X G e t) : GT X G e t := ⟨h.pw.pt, h.mono⟩
theorem gw_and (ha : GT X G a t) (hb : GW X G (.BoolOp .And (b :: rest) pos) u) : GW X G (.BoolOp .And (a :: b :: rest) pos) (wAnd t u) := by
  refine ⟨pw_imp (pw_and ha.pt hb.pw) fun σ H Q ⟨T, env, F, r, q⟩ => ⟨T, env, F, r, ha.mono env _ _ (fun c e q T' H' F' a => ?_) q⟩, fun env Q Q' i q => ha.mono env _ _ (fun c e q => ?_) q⟩
  · cases c with
    | true => exact ite_tt ⟨T', e, F', a.re, hb.mono e _ _ (fun b e2 q T2 H2 F2 a2 => q T2 H2 F2 (a.trans r.trk a2)) q⟩
    | false => exact ite_ff (q T' H' F' a)
  · cases c with
    | true => exact hb.mono e _ _ i q
    | false => exact i _ _ q
theorem gw_or (ha : GT X G a t) (hb : GW X G (.BoolOp .Or (b :: rest) pos) u) : GW X G (.BoolOp .Or (a :: b :: rest) pos) (wOr t u) := by
  refine ⟨pw_imp (pw_or ha.pt hb.pw) fun σ H Q ⟨T, env, F, r, q⟩ => ⟨T, env, F, r, ha.mono env _ _ (fun c e q T' H' F' a => ?_) q⟩, fun env Q Q' i q => ha.mono env _ _ (fun c e q => ?_) q⟩
  · cases c with
    | false => exact ite_ff ⟨T', e, F', a.re, hb.mono e _ _ (fun b e2 q T2 H2 F2 a2 => q T2 H2 F2 (a.trans r.trk a2)) q⟩
    | true => exact ite_tt (q T' H' F' a)
  · cases c with
    | false => exact hb.mono e _ _ i q
    | true => exact i _ _ q
theorem gt_not (ha : GT X G a t) : GT X G (.UnaryOp .Not a pos) (wNot t) :=
  ⟨pt_imp (pt_not ha.pt) fun σ H Q ⟨T, env, F, r, q⟩ => ⟨T, env, F, r, q⟩, fun env Q Q' i q => ha.mono env _ _ (fun c e q => i _ _ q) q⟩
theorem ge_one {op} (h : GE X G a w1) : GE X G (.BoolOp op [a] pos) w1 := ⟨pe_one h.pe, h.mono⟩
theorem bl_of {T : Addr → Prop} {H : Hp} {v : V} {k : Bool} {fr : List Addr} (h : SlR G T H (.f (.bl k)) v fr) : v = .bl k := by
  obtain ⟨h1, _⟩ := h
  cases h1
  rfl
theorem res_f {T0 T : Addr → Prop} {H0 H : Hp} {env0 env : Env} {F0 F : Nat → List Addr} {d : D} {v : V} (h : Fz G.K (hid T H) v d) : Res G T0 H0 env0 F0 T H env F (.f d) v [] := ⟨⟨h, rfl⟩, nofun, nofun⟩
theorem res_trans {T0 T1 T2 : Addr → Prop} {H0 H1 H2 : Hp} {σ : L2.St} {env0 env1 env2 : Env} {F0 F1 F2 : Nat → List Addr} {r : Sl} {v : V} {fr : List Addr} (t : Trk T0 H0) (a : Att G σ T0 H0 env0 F0 T1 H1 env1 F1) (z : Res G T1 H1 env1 F1 T2 H2 env2 F2 r v fr) : Res G T0 H0 env0 F0 T2 H2 env2 F2 r v fr :=
  ⟨z.rel, z.dis, fun o e x hx => by
    rcases z.from_ o e x hx with q | q
    · exact a.own x q
    · refine .inr ?_
      cases e : H0 x with
      | none => rfl
      | some o => exact absurd q (a.chg.dom x (by rw [e]; exact nofun))⟩
theorem ge_and (ha : GE X G a w1) (hb : GE X G (.BoolOp .And (b :: rest) pos) w2) : GE X G (.BoolOp .And (a :: b :: rest) pos) (wAndV w1 w2) := by
  refine ⟨pe_imp (pe_and ha.pe hb.pe) fun σ H Q ⟨T, env, F, r, q⟩ => ⟨T, env, F, r, ha.mono env _ _ (fun s e ⟨k, hk, q⟩ v T' H' F' fr a z => ?_) q⟩, fun env Q Q' i q => ha.mono env _ _ (fun s e ⟨k, hk, q⟩ => ⟨k, hk, ?_⟩) q⟩
  · subst hk
    refine ⟨k, bl_of z.rel, ?_⟩
    cases k with
    | true => exact ite_tt ⟨T', e, F', a.re, hb.mono e _ _ (fun b e2 q v2 T2 H2 F2 f2 a2 z2 => q v2 T2 H2 F2 f2 (a.trans r.trk a2) (res_trans r.trk a z2)) q⟩
    | false => exact ite_ff (q _ T' H' F' [] a (res_f (.bl false)))
  · cases k with
    | true => exact hb.mono e _ _ i q
    | false => exact i _ _ q
theorem ge_or (ha : GE X G a w1) (hb : GE X G (.BoolOp .Or (b :: rest) pos) w2) : GE X G (.BoolOp .Or (a :: b :: rest) pos) (wOrV w1 w2) := by
  refine ⟨pe_imp (pe_or ha.pe hb.pe) fun σ H Q ⟨T, env, F, r, q⟩ => ⟨T, env, F, r, ha.mono env _ _ (fun s e ⟨k, hk, q⟩ v T' H' F' fr a z => ?_) q⟩, fun env Q Q' i q => ha.mono env _ _ (fun s e ⟨k, hk, q⟩ => ⟨k, hk, ?_⟩) q⟩
  · subst hk
    refine ⟨k, bl_of z.rel, ?_⟩
    cases k with
    | false => exact ite_ff ⟨T', e, F', a.re, hb.mono e _ _ (fun b e2 q v2 T2 H2 F2 f2 a2 z2 => q v2 T2 H2 F2 f2 (a.trans r.trk a2) (res_trans r.trk a z2)) q⟩
    | true => exact ite_tt (q _ T' H' F' [] a (res_f (.bl true)))
  · cases k with
    | false => exact hb.mono e _ _ i q
    | true => exact i _ _ q
theorem ge_not (ha : GE X G a w1) : GE X G (.UnaryOp .Not a pos) (wNotV w1) := by
  refine ⟨pe_imp (pe_not ha.pe) fun σ H Q ⟨T, env, F, r, q⟩ => ⟨T, env, F, r, ha.mono env _ _ (fun s e ⟨k, hk, q⟩ v T' H' F' fr a z => ?_) q⟩, fun env Q Q' i q => ha.mono env _ _ (fun s e ⟨k, hk, q⟩ => ⟨k, hk, i _ _ q⟩) q⟩
  subst hk
  exact ⟨k, bl_of z.rel, q _ T' H' F' [] a (res_f (.bl _))⟩
/-! a < b < c -/
def wChain (o1 o2 : Op2) (w1 w2 w3 : WE) : WE := fun env Q => w1 env fun r1 e1 => ∃ d1, r1 = .f d1 ∧ w2 e1 fun r2 e2 => ∃ d2, r2 = .f d2 ∧ o1 d1 d2 fun d => ∃ k, d = .bl k ∧ if k = true then w3 e2 fun r3 e3 => ∃ d3, r3.cd = some d3 ∧ o2 d2 d3 fun d => Q (.f d) e3 else Q (.f (.bl false)) e2
theorem chainW {o1 o2 : Op2} (ma : MonoE w1) (mb : MonoE w2) (mc : MonoE w3) (m1 : MonoO o1) (m2 : MonoO o2) {σ : L2.St} {H : Hp} {Q : VK} (h : tW G (wChain o1 o2 w1 w2 w3) σ H Q) : tChain (rO G o1) (rO G o2) (tW G w1) (tW G w2) (tW G w3) σ H Q := by
  obtain ⟨T, env, F, r, q⟩ := h
  refine ⟨T, env, F, r, ma env _ _ (fun r1 e1 ⟨d1, e, q⟩ x T1 H1 F1 f1 a1 z1 => ?_) q⟩
  subst e
  refine ⟨T1, e1, F1, a1.re, mb e1 _ _ (fun r2 e2 ⟨d2, e, q⟩ y T2 H2 F2 f2 a2 z2 => ?_) q⟩
  subst e
  refine ⟨T2, d1, d2, a2.re.trk, Cz.of (Fz.att a1.re a2 z1.rel.1), Cz.of z2.rel.1, m1 _ _ _ _ (fun d ⟨k, e, q⟩ v H3 e3 fz => ?_) q⟩
  subst e
  cases fz
  refine ⟨k, rfl, ?_⟩
  have a3 := (a1.trans r.trk a2).trans r.trk (Att.ex a2.re e3)
  cases k with
  | false => exact ite_ff (q _ T2 H3 F2 [] a3 (res_f (.bl false)))
  | true =>
    refine ite_tt ⟨T2, e2, F2, a3.re, mc e2 _ _ (fun r3 e4 ⟨d3, e, q⟩ z T4 H4 F4 f4 a4 z4 => ?_) q⟩
    refine ⟨T4, d2, d3, a4.re.trk, Cz.of (Fz.att a3.re a4 (z2.rel.1.ex (hid_mono e3))), z4.rel.cz e, m2 _ _ _ _ (fun d q v H5 e5 fz => ?_) q⟩
    exact q v T4 H5 F4 [] ((a3.trans r.trk a4).trans r.trk (Att.ex a4.re e5)) (res_f fz)
theorem monoChain {o1 o2 : Op2} (ma : MonoE w1) (mb : MonoE w2) (mc : MonoE w3) (m1 : MonoO o1) (m2 : MonoO o2) : MonoE (wChain o1 o2 w1 w2 w3) := fun env Q Q' i q =>
  ma env _ _ (fun r1 e1 ⟨d1, e, q⟩ => ⟨d1, e, mb e1 _ _ (fun r2 e2 ⟨d2, e, q⟩ => ⟨d2, e, m1 _ _ _ _ (fun d ⟨k, e, q⟩ => ⟨k, e, by
    cases k with
    | false => exact i _ _ q
    | true => exact mc _ _ _ (fun r3 e3 ⟨d3, e, q⟩ => ⟨d3, e, m2 _ _ _ _ (fun d q => i _ _ q) q⟩) q⟩) q⟩) q⟩) q
theorem ge_chain {op op' : CmpOp} {o1 o2 : Op2} (h1 : OpX X G (compareOp op) o1) (h2 : OpX X G (compareOp op') o2) (ha : GE X G a w1) (hb : GE X G b w2) (hc : GE X G c w3)
    (hm : lastMarks [op, op'] [b, c] = false := by with_unfolding_all rfl) : GE X G (.Compare a [op, op'] [b, c] pos) (wChain o1 o2 w1 w2 w3) :=
  ⟨pe_imp (pe_chain h1.ok h2.ok ha.pe hb.pe hc.pe hm) fun _ _ _ h => chainW ha.mono hb.mono hc.mono h1.mono h2.mono h, monoChain ha.mono hb.mono hc.mono h1.mono h2.mono⟩
theorem gt_chain {op op' : CmpOp} {o1 o2 : Op2} (h1 : OpX X G (compareOp op) o1) (h2 : OpX X G (compareOp op') o2) (ha : GE X G a w1) (hb : GE X G b w2) (hc : GE X G c w3)
    (hm : lastMarks [op, op'] [b, c] = false := by with_unfolding_all rfl) : GT X G (.Compare a [op, op'] [b, c] pos) (wTB (wChain o1 o2 w1 w2 w3)) := by
  have m := monoChain ha.mono hb.mono hc.mono h1.mono h2.mono
  refine ⟨pt_imp (pt_chain h1.ok h2.ok ha.pe hb.pe hc.pe hm) fun σ H Q ⟨T, env, F, r, q⟩ => ?_, fun env Q Q' i q => m env _ _ (fun s e ⟨b, hb, q⟩ => ⟨b, hb, i _ _ q⟩) q⟩
  refine chainW ha.mono hb.mono hc.mono h1.mono h2.mono ⟨T, env, F, r, m env _ _ (fun s e ⟨b, hb, q⟩ v T' H' F' fr a z => ?_) q⟩
  subst hb
  exact ⟨_, bl_of z.rel, q T' H' F' a⟩
/-! one value -/
abbrev Op1 := D → (D → Prop) → Prop
def MonoU (o : Op1) : Prop := ∀ a (Q Q' : D → Prop), (∀ d, Q d → Q' d) → o a Q → o a Q'
def rU1 (G : Gx) (o : Op1) : V → Hp → VK → Prop := fun x H Q => ∃ T d1, Trk T H ∧ Cz G.K T H x d1 ∧ o d1 fun d => ∀ v H', Ex H H' → Fz G.K (hid T H') v d → Q v H'
structure UnX (X : Cx) (G : Gx) (f : Value → Sem Value) (o : Op1) : Prop where
  ok : UnR X f (rU1 G o)
  mono : MonoU o
def wUn (o : Op1) (w : WE) : WE := fun env Q => w env fun r e => ∃ d, r.cd = some d ∧ o d fun d' => Q (.f d') e
theorem unW {o : Op1} (ma : MonoE w1) (mo : MonoU o) {σ : L2.St} {H : Hp} {Q : VK} (h : tW G (wUn o w1) σ H Q) : tUn (rU1 G o) (tW G w1) σ H Q := by
  obtain ⟨T, env, F, r, q⟩ := h
  refine ⟨T, env, F, r, ma env _ _ (fun r1 e1 ⟨d1, e, q⟩ x T1 H1 F1 f1 a1 z1 => ?_) q⟩
  refine ⟨T1, d1, a1.re.trk, z1.rel.cz e, mo _ _ _ (fun d q v H3 e3 fz => ?_) q⟩
  exact q v T1 H3 F1 [] (a1.trans r.trk (Att.ex a1.re e3)) (res_f fz)
theorem monoUn {o : Op1} (ma : MonoE w1) (mo : MonoU o) : MonoE (wUn o w1) := fun env Q Q' i q => ma env _ _ (fun r e ⟨d, h, q⟩ => ⟨d, h, mo _ _ _ (fun d q => i _ _ q) q⟩) q
theorem ge_un {op : UnaryOp} {o : Op1} (ho : UnX X G (unaryOp op) o) (ha : GE X G a w1) : GE X G (.UnaryOp op a pos) (wUn o w1) :=
  ⟨pe_imp (pe_un ho.ok ha.pe) fun _ _ _ h => unW ha.mono ho.mono h, monoUn ha.mono ho.mono⟩
end
end Fx

namespace Fx
open PySem PySem.Spec PyProof.Rows L2 Evl Lk

/-! ### a slot's owned thing is moved out of it -/
section
variable {G : Gx} {T T1 : Addr → Prop} {H H1 : Hp} {σ : L2.St} {env : Env} {F : Nat → List Addr} {s r : Sl} {v : V} {fr : List Addr} {i : Nat}
theorem set_get {env : Env} {i j : Nat} {x : Option Sl} (h : (env.set i x)[j]? = some (some s)) : (j = i ∧ x = some s) ∨ (j ≠ i ∧ env[j]? = some (some s)) := by
  by_cases e : j = i
  · subst e
    by_cases hl : j < env.length
    · rw [List.getElem?_set_self hl] at h
      exact .inl ⟨rfl, Option.some.inj h⟩
    · rw [List.set_eq_of_length_le (by omega), List.getElem?_eq_none (by omega)] at h
      cases h
  · rw [List.getElem?_set_ne (Ne.symm e)] at h
    exact .inr ⟨e, h⟩
/-- one slot forgotten -/
theorem RE.drop (r : RE G T H σ env F) (i : Nat) : RE G T H σ (env.set i none) F where
  trk := r.trk
  tab := r.tab
  slot := fun j s h => by
    rcases set_get h with ⟨_, e⟩ | ⟨_, e⟩
    · cases e
    · exact r.slot j s e
  dis := fun j k n ⟨o, h1⟩ ⟨s, h2⟩ => by
    rcases set_get h1 with ⟨_, e⟩ | ⟨_, h1⟩
    · cases e
    rcases set_get h2 with ⟨_, e⟩ | ⟨_, h2⟩
    · cases e
    exact r.dis j k n ⟨o, h1⟩ ⟨s, h2⟩
  st := r.st
  ow := fun a ⟨j, ⟨o, h⟩, ha⟩ => by
    rcases set_get h with ⟨_, e⟩ | ⟨_, h⟩
    · cases e
    · exact r.ow a ⟨j, ⟨o, h⟩, ha⟩
  t0 := r.t0
  pin := r.pin
  len := by rw [List.length_set]; exact r.len
  hx := r.hx
/-- a slot stored: what was in it is let go -/
theorem RE.store (re : RE G T H σ env F) (i : Nat) (hi : i < σ.length) (hp : G.prot i = false) (nv : ∀ o, r ≠ .vw o) (z : SlR G T H r v fr) (dis : ∀ o, r = .own o → ∀ j, IsS env j → ∀ a ∈ fr, a ∉ F j) (fo : ∀ o, r = .own o → ∀ a ∈ fr, G.P0 a ∨ G.H0 a = none) :
    RE G T H (σ.set i (some v)) (env.set i (some r)) (upF F i fr) where
  trk := re.trk
  tab := re.tab
  slot := fun j s h => by
    rcases set_get h with ⟨e, e2⟩ | ⟨e, e2⟩
    · cases e2
      subst e
      refine ⟨v, List.getElem?_set_self hi, ?_⟩
      rw [upF_same]
      exact z
    · obtain ⟨w, h1, h2⟩ := re.slot j s e2
      refine ⟨w, by rw [List.getElem?_set_ne (Ne.symm e)]; exact h1, ?_⟩
      rw [upF_ne e]
      exact h2
  dis := fun j k n ⟨o, h1⟩ ⟨s, h2⟩ a ha hb => by
    rcases set_get h1 with ⟨e, e1⟩ | ⟨e, h1⟩
    · cases e1
      subst e
      rcases set_get h2 with ⟨e, e1⟩ | ⟨e, h2⟩
      · exact n e.symm
      · rw [upF_same] at ha
        rw [upF_ne e] at hb
        exact dis o rfl k ⟨s, h2⟩ a ha hb
    · rw [upF_ne e] at ha
      have g1 : IsS env j := ⟨_, h1⟩
      rcases set_get h2 with ⟨e2, e1⟩ | ⟨e2, h2⟩
      · cases e1
        subst e2
        rw [upF_same] at hb
        cases r with
        | f d => rw [z.2] at hb; cases hb
        | own o' => exact dis o' rfl j g1 a hb ha
        | vw o' => exact absurd rfl (nv o')
      · rw [upF_ne e2] at hb
        exact re.dis j k n ⟨o, h1⟩ ⟨s, h2⟩ a ha hb
  st := re.st
  ow := fun a ⟨j, ⟨o, h⟩, ha⟩ => by
    rcases set_get h with ⟨e, e1⟩ | ⟨e, h⟩
    · cases e1
      subst e
      rw [upF_same] at ha
      exact fo o rfl a ha
    · rw [upF_ne e] at ha
      exact re.ow a ⟨j, ⟨o, h⟩, ha⟩
  t0 := re.t0
  pin := fun j hj => by
    have n : i ≠ j := fun e => by rw [← e, hp] at hj; cases hj
    rw [List.getElem?_set_ne n]
    exact re.pin j hj
  len := by rw [List.length_set, List.length_set]; exact re.len
  hx := re.hx
end

/-! ### argument lists -/
/-- the arguments: what is owned of a passing one stands apart -/
structure ArgR (G : Gx) (σ : L2.St) (T0 : Addr → Prop) (H0 : Hp) (env0 : Env) (F0 : Nat → List Addr) (T : Addr → Prop) (H : Hp) (env : Env) (F : Nat → List Addr) (as : List Ag) (vs : List V) (Fa : Nat → List Addr) : Prop where
  len : vs.length = as.length
  val : ∀ (j : Nat) (s : Sl), as[j]? = some (Ag.v s) → ∃ v, vs[j]? = some v ∧ SlR G T H s v (Fa j) ∧ ∀ o, s ≠ .vw o
  slt : ∀ (j i : Nat) (b : Bool), as[j]? = some (Ag.slot i b) → ∃ v, σ[i]? = some (some v) ∧ vs[j]? = some v
  dis : ∀ (j : Nat) (o : O), as[j]? = some (Ag.v (.own o)) → (∀ i, IsS env i → ∀ a ∈ Fa j, a ∉ F i) ∧ ∀ (k : Nat) (s : Sl), k ≠ j → as[k]? = some (Ag.v s) → ∀ a ∈ Fa j, a ∉ Fa k
  from_ : ∀ (j : Nat) (o : O), as[j]? = some (Ag.v (.own o)) → ∀ a ∈ Fa j, OwnP env0 F0 a ∨ H0 a = none
def tWA (G : Gx) (w : WA) : TA := fun σ H Q => ∃ T env F, RE G T H σ env F ∧ w env fun as env' => ∀ vs T' H' F' Fa, Att G σ T H env F T' H' env' F' → ArgR G σ T H env F T' H' env' F' as vs Fa → Q vs H'
structure GA (X : Cx) (G : Gx) (es : List Expr) (w : WA) : Prop where
  pa : PA X es (tWA G w)
  mono : MonoA w
def waNil : WA := fun env Q => Q [] env
def waCons (w : WE) (wr : WA) : WA := fun env Q => w env fun r e => (∀ o, r ≠ .vw o) ∧ wr e fun as e2 => Q (.v r :: as) e2
def waSlot (i : Nat) (own : Bool) (wr : WA) : WA := fun env Q => (∃ s, env[i]? = some (some s)) ∧ wr env fun as e2 => Q (.slot i own :: as) e2
section
variable {X : Cx} {G : Gx} {e : Expr} {es : List Expr} {w : WE} {wr : WA}
theorem att_out {T1 T2 : Addr → Prop} {H1 H2 : Hp} {σ : L2.St} {env1 env2 : Env} {F1 F2 : Nat → List Addr} {fr : List Addr} (t : Trk T1 H1) (b : Att G σ T1 H1 env1 F1 T2 H2 env2 F2)
    (tr : ∀ x ∈ fr, T1 x) (n : ∀ i, IsS env1 i → ∀ x ∈ fr, x ∉ F1 i) : (∀ i, IsS env2 i → ∀ x ∈ fr, x ∉ F2 i) := fun i ⟨s, hi⟩ x hx hF => by
  cases s with
  | f d =>
    obtain ⟨v, _, _, e⟩ := b.re.slot i _ hi
    rw [e] at hF
    cases hF
  | own o =>
    rcases b.own x ⟨i, ⟨o, hi⟩, hF⟩ with ⟨j, ⟨o', hj⟩, hF1⟩ | z
    · exact n j ⟨_, hj⟩ x hx hF1
    · exact t x (tr x hx) z
  | vw o =>
    obtain ⟨h1, e⟩ := b.vw i o hi
    rw [e] at hF
    exact n i ⟨_, h1⟩ x hx hF
theorem ga_nil : GA X G [] waNil := by
  refine ⟨pa_imp pa_nil fun σ H Q ⟨T, env, F, r, q⟩ => ?_, fun env Q Q' i q => i _ _ q⟩
  exact q [] T H F (fun _ => []) (.refl r) ⟨rfl, fun _ _ h => (by cases h), fun _ _ _ h => (by cases h), fun _ _ h => (by cases h), fun _ _ h => (by cases h)⟩
theorem tc_cons {σ : L2.St} {H : Hp} {Q : List V → Hp → Prop} (hm : MonoE w) (hn : MonoA wr) (h : tWA G (waCons w wr) σ H Q) : tCons (tW G w) (tWA G wr) σ H Q := by
  obtain ⟨T, env, F, r, q⟩ := h
  refine ⟨T, env, F, r, hm env _ _ (fun s e ⟨nv, q⟩ x T1 H1 F1 f1 a1 z1 => ?_) q⟩
  refine ⟨T1, e, F1, a1.re, hn e _ _ (fun as e2 q vs T2 H2 F2 Fa a2 z2 => ?_) q⟩
  have sub1 := z1.rel.sub
  have f1e : (∀ o, s ≠ .own o) → f1 = [] := fun n => by
    cases s with
    | f d => exact z1.rel.2
    | own o => exact absurd rfl (n o)
    | vw o => exact absurd rfl (nv o)
  have nP : ∀ x ∈ f1, ¬ OwnP e F1 x := fun y hy ⟨i, ⟨o, hi⟩, hF⟩ => by
    cases s with
    | f d => rw [z1.rel.2] at hy; cases hy
    | own o' => exact z1.dis o' rfl i ⟨_, hi⟩ y hy hF
    | vw o' => exact nv o' rfl
  have nA : ∀ k s', as[k]? = some (Ag.v s') → ∀ y ∈ f1, y ∉ Fa k := fun k s' hk y hy hF => by
    cases s' with
    | f d =>
      obtain ⟨v, _, z, _⟩ := z2.val k _ hk
      rw [z.2] at hF
      cases hF
    | vw o =>
      obtain ⟨v, _, _, n⟩ := z2.val k _ hk
      exact n o rfl
    | own o =>
      rcases z2.from_ k o hk y hF with h | h
      · exact nP y hy h
      · exact a1.re.trk y (sub1 y hy) h
  refine q (x :: vs) T2 H2 F2 (fun j => match j with | 0 => f1 | j + 1 => Fa j) (a1.trans r.trk a2) ⟨by simp [z2.len], fun j s' hj => ?_, fun j i b hj => ?_, fun j o hj => ?_, fun j o hj => ?_⟩
  · cases j with
    | zero =>
      cases hj
      exact ⟨x, rfl, z1.rel.chg a2.chg a1.re.sub nP, nv⟩
    | succ j => exact z2.val j s' (by simpa using hj)
  · cases j with
    | zero => cases hj
    | succ j => exact z2.slt j i b (by simpa using hj)
  · cases j with
    | zero =>
      cases hj
      refine ⟨att_out a1.re.trk a2 sub1 (z1.dis o rfl), fun k s' nk hk y hy => ?_⟩
      cases k with
      | zero => exact absurd rfl nk
      | succ k => exact nA k s' (by simpa using hk) y hy
    | succ j =>
      obtain ⟨d1, d2⟩ := z2.dis j o (by simpa using hj)
      refine ⟨d1, fun k s' nk hk y hy => ?_⟩
      cases k with
      | zero =>
        cases hk
        exact fun h => nA j _ (by simpa using hj) y h hy
      | succ k => exact d2 k s' (fun e => nk (by rw [e])) (by simpa using hk) y hy
  · cases j with
    | zero => cases hj; exact z1.from_ o rfl
    | succ j =>
      intro y hy
      rcases z2.from_ j o (by simpa using hj) y hy with h | h
      · exact a1.own y h
      · refine .inr ?_
        cases e : H y with
        | none => rfl
        | some u => exact absurd h (a1.chg.dom y (by rw [e]; exact nofun))
theorem ga_cons (ha : GE X G e w) (hr : GA X G es wr) (hs : starEach (e :: es) X.env = (false, eval e X.env) :: starEach es X.env := by rfl) : GA X G (e :: es) (waCons w wr) :=
  ⟨pa_imp (pa_cons ha.pe hr.pa hs) fun σ H Q h => tc_cons ha.mono hr.mono h, fun env Q Q' i q => ha.mono env _ _ (fun s e ⟨nv, q⟩ => ⟨nv, hr.mono e _ _ (fun as e2 q => i _ _ q) q⟩) q⟩
/-- a name that is handed on -/
theorem tc_slot {i : Nat} {own : Bool} {σ : L2.St} {H : Hp} {Q : List V → Hp → Prop} (hn : MonoA wr) (h : tWA G (waSlot i own wr) σ H Q) : tCons (tVar i) (tWA G wr) σ H Q := by
  obtain ⟨T, env, F, r, ⟨s, hs⟩, q⟩ := h
  obtain ⟨x, hx, _⟩ := r.slot i s hs
  refine ⟨x, hx, T, env, F, r, hn env _ _ (fun as e2 q vs T2 H2 F2 Fa a2 z2 => ?_) q⟩
  refine q (x :: vs) T2 H2 F2 (fun j => match j with | 0 => [] | j + 1 => Fa j) a2 ⟨by simp [z2.len], fun j s' hj => ?_, fun j i b hj => ?_, fun j o hj => ?_, fun j o hj => ?_⟩
  · cases j with
    | zero => cases hj
    | succ j => exact z2.val j s' (by simpa using hj)
  · cases j with
    | zero => cases hj; exact ⟨x, hx, rfl⟩
    | succ j => exact z2.slt j i b (by simpa using hj)
  · cases j with
    | zero => cases hj
    | succ j =>
      obtain ⟨d1, d2⟩ := z2.dis j o (by simpa using hj)
      refine ⟨d1, fun k s' nk hk y hy => ?_⟩
      cases k with
      | zero => cases hk
      | succ k => exact d2 k s' (fun e => nk (by rw [e])) (by simpa using hk) y hy
  · cases j with
    | zero => cases hj
    | succ j => exact z2.from_ j o (by simpa using hj)
theorem ga_slot {i : Nat} {own : Bool} (hv : PE X e (tVar i)) (hr : GA X G es wr) (hs : starEach (e :: es) X.env = (false, eval e X.env) :: starEach es X.env := by rfl) : GA X G (e :: es) (waSlot i own wr) :=
  ⟨pa_imp (pa_cons hv hr.pa hs) fun σ H Q h => tc_slot hr.mono h, fun env Q Q' i ⟨h, q⟩ => ⟨h, hr.mono _ _ _ (fun as e2 q => i _ _ q) q⟩⟩
/-! ### displays -/
def argsD : List Ag → Option (List D)
  | [] => some []
  | .v (.f d) :: as => (argsD as).map (d :: ·)
  | _ :: _ => none
theorem args_fz {σ : L2.St} {T0 T : Addr → Prop} {H0 H : Hp} {env0 env : Env} {F0 F : Nat → List Addr} {as : List Ag} {vs : List V} {Fa : Nat → List Addr} {ds : List D} (z : ArgR G σ T0 H0 env0 F0 T H env F as vs Fa) (h : argsD as = some ds) : FzL G.K (hid T H) vs ds := by
  have key : ∀ (as : List Ag) (vs : List V) (ds : List D), vs.length = as.length → (∀ (j : Nat) (s : Sl), as[j]? = some (Ag.v s) → ∃ v fr, vs[j]? = some v ∧ SlR G T H s v fr) → argsD as = some ds → FzL G.K (hid T H) vs ds := by
    intro as
    induction as with
    | nil =>
      intro vs ds hl _ h
      cases h
      cases vs with
      | nil => exact .nil
      | cons _ _ => cases hl
    | cons a as ih =>
      intro vs ds hl hv h
      cases vs with
      | nil => cases hl
      | cons v vs =>
        cases a with
        | slot i b => cases h
        | v s =>
          cases s with
          | own o => cases h
          | vw o => cases h
          | f d =>
            have h : (argsD as).map (d :: ·) = some ds := h
            cases e : argsD as with
            | none => rw [e] at h; cases h
            | some es =>
              rw [e] at h
              cases h
              obtain ⟨v', fr, e1, e2⟩ := hv 0 _ rfl
              cases e1
              refine .cons e2.1 (ih vs es (by simpa using hl) (fun j s hj => ?_) e)
              obtain ⟨v', fr, e1, e2⟩ := hv (j + 1) s (by simpa using hj)
              exact ⟨v', fr, by simpa using e1, e2⟩
  exact key as vs ds z.len (fun j s hj => let ⟨v, a, b, _⟩ := z.val j s hj; ⟨v, _, a, b⟩) h
def wTup (wa : WA) : WE := fun env Q => wa env fun as e => ∃ ds, argsD as = some ds ∧ ds.length ≤ sizeLine ∧ Q (.f (.tup ds)) e
def wLst (wa : WA) : WE := fun env Q => wa env fun as e => ∃ ds, argsD as = some ds ∧ ds.length ≤ sizeLine ∧ Q (.f (.lst ds)) e
/-- a list that is owned -/
def wLstO (wa : WA) : WE := fun env Q => wa env fun as e => ∃ ds, argsD as = some ds ∧ ds.length ≤ sizeLine ∧ Q (.own (.lst ds)) e
variable {wa : WA}
theorem nT {T : Addr → Prop} {H : Hp} {p : Addr} (t : Trk T H) (h : H p = none) : ¬ T p := fun z => t p z h
theorem ge_tup {x1 : Nat} {pos : Pos} (ha : GA X G es wa) : GE X G (.Tuple es x1 pos) (wTup wa) := by
  refine ⟨pe_imp (pe_tup ha.pa) fun σ H Q ⟨T, env, F, r, q⟩ => ⟨T, env, F, r, ha.mono env _ _ (fun as e ⟨ds, hd, hl, q⟩ vs T1 H1 F1 Fa a1 z1 => ?_) q⟩, fun env Q Q' i q => ha.mono env _ _ (fun as e ⟨ds, hd, hl, q⟩ => ⟨ds, hd, hl, i _ _ q⟩) q⟩
  have fz := args_fz z1 hd
  refine ⟨by rw [fz.length]; exact hl, fun p np => ?_⟩
  have ex : Ex H1 (upd H1 p (.tup vs)) := Ex.new np
  exact q _ T1 _ F1 [] (a1.trans r.trk (Att.ex a1.re ex)) (res_f (.tup (SqT.of (hid_of upd_same (nT a1.re.trk np))) (fz.ex (hid_mono ex))))
theorem ge_lst {pos : Pos} (ha : GA X G es wa) : GE X G (.List es pos) (wLst wa) := by
  refine ⟨pe_imp (pe_lst ha.pa) fun σ H Q ⟨T, env, F, r, q⟩ => ⟨T, env, F, r, ha.mono env _ _ (fun as e ⟨ds, hd, hl, q⟩ vs T1 H1 F1 Fa a1 z1 => ?_) q⟩, fun env Q Q' i q => ha.mono env _ _ (fun as e ⟨ds, hd, hl, q⟩ => ⟨ds, hd, hl, i _ _ q⟩) q⟩
  have fz := args_fz z1 hd
  refine ⟨by rw [fz.length]; exact hl, fun p np => ?_⟩
  have ex : Ex H1 (upd H1 p (.lst vs)) := Ex.new np
  exact q _ T1 _ F1 [] (a1.trans r.trk (Att.ex a1.re ex)) (res_f (.lst (SqL.of (hid_of upd_same (nT a1.re.trk np))) (fz.ex (hid_mono ex))))
/-- a new thing that is owned -/
theorem att_new {T : Addr → Prop} {H : Hp} {σ : L2.St} {env : Env} {F : Nat → List Addr} {p : Addr} {o : HO} (r : RE G T H σ env F) (np : H p = none) : Att G σ T H env F (fun a => T a ∨ a = p) (upd H p o) env F := by
  have c : Chg T H (fun _ => False) (fun a => T a ∨ a = p) (upd H p o) := Chg.newOwn r.trk np
  exact ⟨c.weak fun _ h => h.elim, r.chg c (fun _ h => h.elim) (fun _ h => h.elim) fun _ _ _ _ h => h, fun _ h => .inl h, fun _ _ h => ⟨h, rfl⟩⟩
theorem own_new {T : Addr → Prop} {H : Hp} {σ : L2.St} {env : Env} {F : Nat → List Addr} {p : Addr} {ob : HO} {o : O} {v : V} (r : RE G T H σ env F) (np : H p = none) (ow : Ow G.K (fun a => T a ∨ a = p) (upd H p ob) o v [p]) :
    Res G T H env F (fun a => T a ∨ a = p) (upd H p ob) env F (.own o) v [p] :=
  ⟨ow, fun _ _ i ⟨s, hs⟩ a ha hF => by
    rw [List.mem_singleton.mp ha] at hF
    obtain ⟨v, _, z⟩ := r.slot i s hs
    exact r.trk p (z.sub p hF) np, fun _ _ a ha => by rw [List.mem_singleton.mp ha]; exact .inr np⟩
theorem hid_new {T : Addr → Prop} {H : Hp} {p : Addr} {o : HO} (np : H p = none) : Ex (hid T H) (hid (fun a => T a ∨ a = p) (upd H p o)) := fun a u h => by
  obtain ⟨h1, h2⟩ := hid_some h
  have n : a ≠ p := ne_of_none h1 np
  exact hid_of (by rw [upd_ne n]; exact h1) fun z => z.elim h2 n
theorem ge_lstO {pos : Pos} (ha : GA X G es wa) : GE X G (.List es pos) (wLstO wa) := by
  refine ⟨pe_imp (pe_lst ha.pa) fun σ H Q ⟨T, env, F, r, q⟩ => ⟨T, env, F, r, ha.mono env _ _ (fun as e ⟨ds, hd, hl, q⟩ vs T1 H1 F1 Fa a1 z1 => ?_) q⟩, fun env Q Q' i q => ha.mono env _ _ (fun as e ⟨ds, hd, hl, q⟩ => ⟨ds, hd, hl, i _ _ q⟩) q⟩
  have fz := args_fz z1 hd
  refine ⟨by rw [fz.length]; exact hl, fun p np => ?_⟩
  exact q _ _ _ F1 [p] (a1.trans r.trk (att_new a1.re np)) (res_trans r.trk a1 (own_new a1.re np (.lst (.inr rfl) upd_same (fz.ex (hid_new np)))))
end
end Fx

namespace Fx
open PySem PySem.Spec PyProof.Rows L2 Evl Lk

/-- a result that is handed out of the frame -/
structure ResS (G : Gx) (T : Addr → Prop) (H : Hp) (env : Env) (F : Nat → List Addr) (r : Sl) (v : V) (fr : List Addr) : Prop where
  rel : SlR G T H r v fr
  nv : ∀ o, r ≠ .vw o
  dis : ∀ o, r = .own o → ∀ i, IsS env i → ∀ a ∈ fr, a ∉ F i
  from_ : ∀ o, r = .own o → ∀ a ∈ fr, G.P0 a ∨ G.H0 a = none
/-- what is wanted, over trees; h0: what is not owned as the statement begins -/
def toD (G : Gx) (h0 : Hp) (D : Ends) : WEnds where
  nx := fun env => ∀ σ T H F, RE G T H σ env F → Ex h0 (hid T H) → D.nx σ H
  rt := fun r env => ∀ v σ T H F fr, RE G T H σ env F → ResS G T H env F r v fr → D.rt v H
  bk := fun env => ∀ σ T H F, RE G T H σ env F → Ex h0 (hid T H) → D.bk σ H
  ct := fun env => ∀ σ T H F, RE G T H σ env F → Ex h0 (hid T H) → D.ct σ H
theorem toD_le {G : Gx} {h0 h1 : Hp} {D : Ends} (e : Ex h0 h1) : (toD G h0 D).Le (toD G h1 D) :=
  ⟨fun env q σ T H F r x => q σ T H F r (e.trans x), fun _ _ q => q, fun env q σ T H F r x => q σ T H F r (e.trans x), fun env q σ T H F r x => q σ T H F r (e.trans x)⟩
def tWS (G : Gx) (w : WS) : TS := fun D σ H => ∃ T env F, RE G T H σ env F ∧ w (toD G (hid T H) D) env
structure GS (X : Cx) (G : Gx) (st : Stmt) (w : WS) : Prop where
  ps : PS X st (tWS G w)
  mono : MonoS w
structure GSs (X : Cx) (G : Gx) (st : List Stmt) (w : WS) : Prop where
  pss : PSs X st (tWS G w)
  mono : MonoS w
def wNext : WS := fun D env => D.nx env
def wSeq (w1 w2 : WS) : WS := fun D env => w1 { D with nx := fun e => w2 D e } env
def wRet (w : WE) : WS := fun D env => w env fun r e => (∀ o, r ≠ .vw o) ∧ D.rt r e
def wIfS (t : WT) (w1 w2 : WS) : WS := fun D env => t env fun b e => if b = true then w1 D e else w2 D e
def wSet (i : Nat) (w : WE) : WS := fun D env => w env fun r e => (∀ o, r ≠ .vw o) ∧ i < e.length ∧ D.nx (e.set i (some r))
abbrev WG := D → Env → (Env → Prop) → Prop
abbrev WGs := List D → Env → (Env → Prop) → Prop
def MonoG (g : WG) : Prop := ∀ d env (Q Q' : Env → Prop), (∀ e, Q e → Q' e) → g d env Q → g d env Q'
def MonoGs (g : WGs) : Prop := ∀ d env (Q Q' : Env → Prop), (∀ e, Q e → Q' e) → g d env Q → g d env Q'
def tWG (G : Gx) (g : WG) : TG := fun v σ H Q => ∃ T env F d, RE G T H σ env F ∧ Fz G.K (hid T H) v d ∧ g d env fun env' => ∀ σ' T' H' F', RE G T' H' σ' env' F' → Ex (hid T H) (hid T' H') → Q σ' H'
def tWGs (G : Gx) (g : WGs) : TGs := fun vs σ H Q => ∃ T env F ds, RE G T H σ env F ∧ FzL G.K (hid T H) vs ds ∧ g ds env fun env' => ∀ σ' T' H' F', RE G T' H' σ' env' F' → Ex (hid T H) (hid T' H') → Q σ' H'
structure GG (X : Cx) (G : Gx) (tg : Expr) (g : WG) : Prop where
  pg : PG X tg (tWG G g)
  mono : MonoG g
  keep : ∀ d env Q, g d env Q → g d env Q
def gn (i : Nat) : WG := fun d env Q => i < env.length ∧ Q (env.set i (some (.f d)))
def gsNil : WGs := fun ds env Q => ds = [] ∧ Q env
def gsCons (g : WG) (u : WGs) : WGs := fun ds env Q => ∃ d r, ds = d :: r ∧ g d env fun e => u r e Q
def gTp (n : Nat) (u : WGs) : WG := fun d env Q => ∃ ds, d = .tup ds ∧ ds.length = n ∧ u ds env Q
def wAsg (w : WE) (g : WG) : WS := fun D env => w env fun r e => ∃ d, r = .f d ∧ g d e D.nx
section
variable {X : Cx} {G : Gx} {st : Stmt} {rest : List Stmt} {w w1 w2 : WS} {we : WE} {t : WT} {e : Expr} {pos : Pos}
theorem gss_nil : GSs X G [] wNext := ⟨pss_imp pss_nil fun D σ H ⟨T, env, F, r, q⟩ => q σ T H F r (Ex.refl _), fun _ _ _ l q => l.nx _ q⟩
theorem gss_one (h : GS X G st w) : GSs X G [st] w := ⟨pss_one h.ps, h.mono⟩
theorem gss_cons (h : GS X G st w1) (h2 : GSs X G rest w2) : GSs X G (st :: rest) (wSeq w1 w2) := by
  refine ⟨pss_imp (pss_cons h.ps h2.pss) fun D σ H ⟨T, env, F, r, q⟩ => ⟨T, env, F, r, h.mono { toD G (hid T H) D with nx := fun e => w2 (toD G (hid T H) D) e } _ env ⟨fun e q σ' T' H' F' r' x => ⟨T', e, F', r', h2.mono _ _ _ (toD_le x) q⟩, fun _ _ q => q, fun _ q => q, fun _ q => q⟩ q⟩, fun D D' env l q => h.mono { D with nx := fun e => w2 D e } _ env ⟨fun e q => h2.mono D D' e l q, l.rt, l.bk, l.ct⟩ q⟩
theorem resS {T T1 : Addr → Prop} {H H1 : Hp} {σ : L2.St} {env env1 : Env} {F F1 : Nat → List Addr} {s : Sl} {v : V} {fr : List Addr} (r : RE G T H σ env F) (z : Res G T H env F T1 H1 env1 F1 s v fr) (nv : ∀ o, s ≠ .vw o) : ResS G T1 H1 env1 F1 s v fr :=
  ⟨z.rel, nv, z.dis, fun o e a ha => by
    rcases z.from_ o e a ha with q | q
    · exact r.ow a q
    · refine .inr ?_
      cases e : G.H0 a with
      | none => rfl
      | some u => exact absurd q (r.st.dom a (by rw [e]; exact nofun))⟩
theorem gs_ret (h : GE X G e we) : GS X G (.Return (some e) pos) (wRet we) := by
  refine ⟨ps_imp (ps_ret h.pe) fun D σ H ⟨T, env, F, r, q⟩ => ⟨T, env, F, r, h.mono _ _ _ (fun s e ⟨nv, q⟩ v T' H' F' fr a z => ?_) q⟩, fun D D' env l q => h.mono _ _ _ (fun s e ⟨nv, q⟩ => ⟨nv, l.rt _ _ q⟩) q⟩
  exact q v σ T' H' F' fr a.re (resS r z nv)
theorem gs_if {a b : List Stmt} {c : Expr} (hc : GT X G c t) (ha : GSs X G a w1) (hb : GSs X G b w2) : GS X G (.If c a b pos) (wIfS t w1 w2) := by
  refine ⟨ps_imp (ps_if hc.pt ha.pss hb.pss) fun D σ H ⟨T, env, F, r, q⟩ => ⟨T, env, F, r, hc.mono _ _ _ (fun k e q T' H' F' a => ?_) q⟩, fun D D' env l q => hc.mono _ _ _ (fun k e q => ?_) q⟩
  · cases k with
    | true => exact ite_tt ⟨T', e, F', a.re, ha.mono _ _ _ (toD_le (a.chg.hid r.sub)) q⟩
    | false => exact ite_ff ⟨T', e, F', a.re, hb.mono _ _ _ (toD_le (a.chg.hid r.sub)) q⟩
  · cases k with
    | true => exact ha.mono _ _ _ l q
    | false => exact hb.mono _ _ _ l q
theorem gs_set {i : Nat} (h : PS X st (tAsg (tW G we) (gName i))) (m : MonoE we) (hp : G.prot i = false) : GS X G st (wSet i we) := by
  refine ⟨ps_imp h fun D σ H ⟨T, env, F, r, q⟩ => ⟨T, env, F, r, m _ _ _ (fun s e ⟨nv, hi, q⟩ v T' H' F' fr a z => ?_) q⟩, fun D D' env l q => m _ _ _ (fun s e ⟨nv, hi, q⟩ => ⟨nv, hi, l.nx _ q⟩) q⟩
  have zs := resS r z nv
  exact q _ T' H' _ (a.re.store i (by rw [← a.re.len]; exact hi) hp nv z.rel z.dis zs.from_) (a.chg.hid r.sub)
/-! targets -/
theorem gg_name {i : Nat} (h : PG X e (gName i)) (hp : G.prot i = false) : GG X G e (gn i) := by
  refine ⟨⟨fun pins s σ H v u Q I rv ⟨T, env, F, d, r, fz, hi, q⟩ => h.run pins s σ H v u Q I rv ?_⟩, fun d env Q Q' i ⟨hi, q⟩ => ⟨hi, i _ q⟩, fun _ _ _ q => q⟩
  exact q _ T H _ (r.store i (by rw [← r.len]; exact hi) hp nofun (fr := []) ⟨fz, rfl⟩ nofun nofun) (Ex.refl _)
structure GGs (X : Cx) (G : Gx) (ts : List Expr) (g : WGs) : Prop where
  pg : PGs X ts (tWGs G g)
  mono : MonoGs g
theorem ggs_nil : GGs X G [] gsNil := by
  refine ⟨⟨fun pins s σ H vs us Q I rv ⟨T, env, F, ds, r, fz, hd, q⟩ => pgs_nil.run pins s σ H vs us Q I rv ?_⟩, fun d env Q Q' i ⟨hi, q⟩ => ⟨hi, i _ q⟩⟩
  subst hd
  cases fz
  exact ⟨rfl, q σ T H F r (Ex.refl _)⟩
theorem ggs_cons {es : List Expr} {i : Nat} {u : WGs} (h : PG X e (gName i)) (hp : G.prot i = false) (h2 : GGs X G es u) (hs : (assignEach (e :: es) X.env).map (·.2) = assign e X.env :: (assignEach es X.env).map (·.2) := by rfl) : GGs X G (e :: es) (gsCons (gn i) u) := by
  refine ⟨⟨fun pins s σ H vs us Q I rv ⟨T, env, F, ds, r, fz, d, dr, hd, hi, q⟩ => (pgs_cons h h2.pg hs).run pins s σ H vs us Q I rv ?_⟩, fun d env Q Q' i ⟨d1, dr, hd, hi, q⟩ => ⟨d1, dr, hd, hi, h2.mono _ _ _ _ i q⟩⟩
  subst hd
  cases fz with
  | cons f1 f2 => exact ⟨_, _, rfl, T, _, _, dr, r.store (r := .f _) i (by rw [← r.len]; exact hi) hp nofun (fr := []) ⟨f1, rfl⟩ nofun nofun, f2, q⟩
theorem gg_tup {es : List Expr} {k n : Nat} {u : WGs} (hc : X.calm = true) (h : GGs X G es u) (hK : X.K = G.K := by rfl) (hn : (assignEach es X.env).length = n := by rfl) (hst : (assignEach es X.env).findIdx? (·.1) = none := by rfl) : GG X G (.Tuple es k pos) (gTp n u) := by
  refine ⟨⟨fun pins s σ H v uu Q I rv ⟨T, env, F, d, r, fz, ds, hd, hl, q⟩ => (pg_tup hc h.pg hn hst).run pins s σ H v uu Q I rv ?_⟩, fun d env Q Q' i ⟨ds, hd, hl, q⟩ => ⟨ds, hd, hl, h.mono _ _ _ _ i q⟩, fun _ _ _ q => q⟩
  subst hd
  cases fz with
  | tup a b => exact ⟨_, _, rfl, by rw [hK]; exact ex_t hid_ex a, b.length.trans hl, T, env, F, ds, r, b, q⟩
theorem gs_asg {tg : Expr} {g : WG} (he : GE X G e we) (hg : GG X G tg g) (hs : swapsWithSole [tg] e pos.line X.env = pure false := by rfl) (hw : swappedStores [tg] e X.env = pure none := by rfl)
    (h1 : (assignEach [tg] X.env).map (·.2) = [assign tg X.env] := by rfl) : GS X G (.Assign [tg] e pos) (wAsg we g) := by
  refine ⟨ps_imp (ps_asg he.pe hg.pg hs hw h1) fun D σ H ⟨T, env, F, r, q⟩ => ⟨T, env, F, r, he.mono _ _ _ (fun s e ⟨d, hd, q⟩ v T' H' F' fr a z => ?_) q⟩, fun D D' env l q => he.mono _ _ _ (fun s e ⟨d, hd, q⟩ => ⟨d, hd, hg.mono _ _ _ _ l.nx q⟩) q⟩
  subst hd
  exact ⟨T', e, F', d, a.re, z.rel.1, hg.mono _ _ _ _ (fun e q σ' T2 H2 F2 r2 x => q σ' T2 H2 F2 r2 ((a.chg.hid r.sub).trans x)) q⟩
/-! ### an owned list at a slot -/
theorem own_lst {T : Addr → Prop} {H : Hp} {σ : L2.St} {env : Env} {F : Nat → List Addr} {k : Nat} {ds : List D} (r : RE G T H σ env F) (hk : env[k]? = some (some (.own (.lst ds)))) :
    ∃ p vs, σ[k]? = some (some (.ref p)) ∧ H p = some (.lst vs) ∧ FzL G.K (hid T H) vs ds ∧
      ∀ vs' ds', FzL G.K (hid T H) vs' ds' → Att G σ T H env F T (upd H p (.lst vs')) (env.set k (some (.own (.lst ds')))) F := by
  obtain ⟨v, h1, h2⟩ := r.slot k _ hk
  have h2 : Ow G.K T H (.lst ds) v (F k) := h2
  generalize hF : F k = fk at h2
  cases h2 with
  | lst a b c =>
    rename_i p vs
    refine ⟨p, vs, h1, b, c, fun vs' ds' fz => ?_⟩
    have hkl : k < env.length := (List.getElem?_eq_some_iff.mp hk).1
    have hP : OwnP env F p := ⟨k, ⟨_, hk⟩, by rw [hF]; exact List.mem_singleton.mpr rfl⟩
    have ch1 : Chg T H (fun x => x = p) T (upd H p (.lst vs')) := Chg.write r.trk rfl
    have ch : Chg T H (OwnP env F) T (upd H p (.lst vs')) := Chg.write r.trk hP
    have he : Ex (hid T H) (hid T (upd H p (.lst vs'))) := ch.hid r.sub
    have ownb : ∀ j, IsOwn (env.set k (some (.own (.lst ds')))) j → IsOwn env j := fun j ⟨o, h⟩ => by
      rcases set_get h with ⟨e, _⟩ | ⟨_, h⟩
      · rw [e]; exact ⟨_, hk⟩
      · exact ⟨o, h⟩
    have isb : ∀ j, IsS (env.set k (some (.own (.lst ds')))) j → IsS env j := fun j ⟨o, h⟩ => by
      rcases set_get h with ⟨e, _⟩ | ⟨_, h⟩
      · rw [e]; exact ⟨_, hk⟩
      · exact ⟨o, h⟩
    refine ⟨ch, ⟨ch.tr, fun q hq => ?_, fun j s hj => ?_, fun i j n h1 h2 => r.dis i j n (ownb i h1) (isb j h2), r.st.trans r.t0 ch r.ow, fun x ⟨j, hj, hx⟩ => r.ow x ⟨j, ownb j hj, hx⟩, r.t0, r.pin, by rw [List.length_set]; exact r.len, r.hx.trans he⟩, fun x ⟨j, hj, hx⟩ => .inl ⟨j, ownb j hj, hx⟩, fun j o h => ?_⟩
    · obtain ⟨t1, t2⟩ := r.tab q hq
      exact ⟨by rw [upd_ne (fun e => t2 (by rw [e]; exact a))]; exact t1, t2⟩
    · rcases set_get hj with ⟨e, e1⟩ | ⟨e, hj⟩
      · cases e1
        subst e
        refine ⟨.ref p, h1, ?_⟩
        rw [hF]
        exact Ow.lst a upd_same (fz.ex he)
      · obtain ⟨v', g1, g2⟩ := r.slot j s hj
        refine ⟨v', g1, g2.chg ch1 (fun x hx => by rw [hx]; exact a) fun x hx hxp => ?_⟩
        refine r.dis k j (Ne.symm e) ⟨_, hk⟩ ⟨_, hj⟩ p (by rw [hF]; exact List.mem_singleton.mpr rfl) ?_
        rw [← hxp]
        exact hx
    · rcases set_get h with ⟨_, e⟩ | ⟨_, h⟩
      · cases e
      · exact ⟨h, rfl⟩
end
end Fx

namespace Fx
open PySem PySem.Spec PyProof.Rows L2 Evl Lk

/-! ### what is walked -/
structure ItD (K : PySem.W.Frag) (J : It) (Bs : (Addr → Prop) → Hp → Prop) (ds : List D) : Prop where
  go : ∀ i T H, Trk T H → Bs T H → i < ds.length → J.go i H ∧ ∀ v H', J.yld i H v H' → ∃ d, ds[i]? = some d ∧ Ex H H' ∧ Fz K (hid T H') v d
  stop : ∀ i T H, Bs T H → i = ds.length → J.stop i H
  keep : ∀ T H T' H', Bs T H → Ex (hid T H) (hid T' H') → Bs T' H'
abbrev WI := Env → (List D → Env → Prop) → Prop
def MonoI (w : WI) : Prop := ∀ env (Q Q' : List D → Env → Prop), (∀ r e, Q r e → Q' r e) → w env Q → w env Q'
def tWI (G : Gx) (w : WI) : TI := fun σ H R => ∃ T env F, RE G T H σ env F ∧ w env fun ds env' => ∀ J T' H' F' Bs, Att G σ T H env F T' H' env' F' → ItD G.K J Bs ds → Bs T' H' → R J H'
structure GI (X : Cx) (G : Gx) (tg iter : Expr) (w : WI) : Prop where
  pi : PI X tg iter (tWI G w)
  mono : MonoI w
section
variable {X : Cx} {G : Gx} {tg iter e : Expr} {w : WE} {wa : WA} {pos : Pos}
theorem pi_imp {t t' : TI} (h : PI X tg iter t) (i : ∀ σ H R, t' σ H R → t σ H R) : PI X tg iter t' := ⟨fun pins s σ H R I q => h.run pins s σ H R I (i σ H R q)⟩
/-- a list, a tuple, a text -/
def wiL (w : WE) : WI := fun env Q => w env fun r e => ∃ ds, r = .f (.lst ds) ∧ Q ds e
def wiT (w : WE) : WI := fun env Q => w env fun r e => ∃ ds, r = .f (.tup ds) ∧ Q ds e
def signs (x : Str) : List D := x.cps.toList.map fun c => .str ⟨#[c]⟩
def wiS (w : WE) : WI := fun env Q => w env fun r e => ∃ x, r = .f (.str x) ∧ Q (signs x) e
theorem itd_list {K : PySem.W.Frag} {a : Addr} {ds : List D} : ItD K (Itl K a) (fun T H => Fz K (hid T H) (.ref a) (.lst ds)) ds where
  go := fun i T H t h hi => by
    cases h with
    | lst l fl =>
      rename_i vs
      have hv : i < vs.length := by rw [fl.length]; exact hi
      refine ⟨⟨vs, _, ex_l hid_ex l, List.getElem?_eq_getElem hv⟩, fun v H' ⟨e, y⟩ => ?_⟩
      subst e
      exact ⟨_, List.getElem?_eq_getElem hi, Ex.refl _, fl.get (y vs (ex_l hid_ex l)) (List.getElem?_eq_getElem hi)⟩
  stop := fun i T H h hi => by
    cases h with
    | lst l fl => exact ⟨_, ex_l hid_ex l, by rw [fl.length, hi]; exact Nat.le_refl _⟩
  keep := fun T H T' H' h e => h.ex e
theorem itd_tup {K : PySem.W.Frag} {a : Addr} {ds : List D} : ItD K (Itt K a) (fun T H => Fz K (hid T H) (.ref a) (.tup ds)) ds where
  go := fun i T H t h hi => by
    cases h with
    | tup l fl =>
      rename_i vs
      have hv : i < vs.length := by rw [fl.length]; exact hi
      refine ⟨⟨vs, _, ex_t hid_ex l, List.getElem?_eq_getElem hv⟩, fun v H' ⟨e, y⟩ => ?_⟩
      subst e
      exact ⟨_, List.getElem?_eq_getElem hi, Ex.refl _, fl.get (y vs (ex_t hid_ex l)) (List.getElem?_eq_getElem hi)⟩
  stop := fun i T H h hi => by
    cases h with
    | tup l fl => exact ⟨_, ex_t hid_ex l, by rw [fl.length, hi]; exact Nat.le_refl _⟩
  keep := fun T H T' H' h e => h.ex e
theorem itd_str {K : PySem.W.Frag} {x : Str} : ItD K (Its x) (fun _ _ => True) (signs x) where
  go := fun i T H t h hi => by
    have hl : (signs x).length = x.cps.size := by unfold signs; simp
    refine ⟨(show i < x.cps.size by rw [← hl]; exact hi), fun v H' ⟨e, c, hc, ev⟩ => ?_⟩
    subst e ev
    refine ⟨.str ⟨#[c]⟩, ?_, Ex.refl _, .str _⟩
    unfold signs
    rw [List.getElem?_map, Array.getElem?_toList, hc] <;> rfl
  stop := fun i T H h hi => by
    have hl : (signs x).length = x.cps.size := by unfold signs; simp
    show x.cps.size ≤ i
    rw [hi, hl] <;> exact Nat.le_refl _
  keep := fun _ _ _ _ _ _ => trivial
theorem itd_rng {K : PySem.W.Frag} {lo : Int} {n : Nat} : ItD K (Itr lo n) (fun _ _ => True) ((List.range n).map fun k : Nat => .int (lo + (k : Int))) where
  go := fun i T H t h hi => by
    have hi' : i < n := by simpa using hi
    refine ⟨hi', fun v H' ⟨e, ev⟩ => ?_⟩
    subst e ev
    exact ⟨.int (lo + (i : Int)), by rw [List.getElem?_map, List.getElem?_range hi'] <;> rfl, Ex.refl _, .int _⟩
  stop := fun i T H h hi => by
    show n ≤ i
    rw [hi] <;> simp
  keep := fun _ _ _ _ _ _ => trivial
theorem gi_list (h : GE X G e w) (hK : X.K = G.K := by rfl) : GI X G tg e (wiL w) := by
  refine ⟨pi_imp (pi_list h.pe) fun σ H R ⟨T, env, F, r, q⟩ => ⟨T, env, F, r, h.mono _ _ _ (fun s e ⟨ds, hd, q⟩ v T' H' F' fr a z => ?_) q⟩, fun env Q Q' i q => h.mono _ _ _ (fun s e ⟨ds, hd, q⟩ => ⟨ds, hd, i _ _ q⟩) q⟩
  subst hd
  have fz := z.rel.1
  cases id fz with
  | lst l fl =>
    rw [hK]
    exact ⟨_, rfl, ⟨_, ex_l hid_ex l⟩, q _ T' H' F' _ a itd_list fz⟩
theorem gi_tup (h : GE X G e w) (hK : X.K = G.K := by rfl) : GI X G tg e (wiT w) := by
  refine ⟨pi_imp (pi_tup h.pe) fun σ H R ⟨T, env, F, r, q⟩ => ⟨T, env, F, r, h.mono _ _ _ (fun s e ⟨ds, hd, q⟩ v T' H' F' fr a z => ?_) q⟩, fun env Q Q' i q => h.mono _ _ _ (fun s e ⟨ds, hd, q⟩ => ⟨ds, hd, i _ _ q⟩) q⟩
  subst hd
  have fz := z.rel.1
  cases id fz with
  | tup l fl =>
    rw [hK]
    exact ⟨_, rfl, ⟨_, ex_t hid_ex l⟩, q _ T' H' F' _ a itd_tup fz⟩
theorem gi_str (h : GE X G e w) : GI X G tg e (wiS w) := by
  refine ⟨pi_imp (pi_str h.pe) fun σ H R ⟨T, env, F, r, q⟩ => ⟨T, env, F, r, h.mono _ _ _ (fun s e ⟨x, hd, q⟩ v T' H' F' fr a z => ?_) q⟩, fun env Q Q' i q => h.mono _ _ _ (fun s e ⟨ds, hd, q⟩ => ⟨ds, hd, i _ _ q⟩) q⟩
  subst hd
  have fz := z.rel.1
  cases fz
  exact ⟨_, rfl, q _ T' H' F' _ a itd_str trivial⟩
def wiR1 (wa : WA) : WI := fun env Q => wa env fun as e => ∃ j : Int, as = [.v (.f (.int j))] ∧ -(2 ^ 62) ≤ j ∧ j < 2 ^ 62 ∧ Q ((List.range j.toNat).map fun k : Nat => .int (0 + (k : Int))) e
def wiR2 (wa : WA) : WI := fun env Q => wa env fun as e => ∃ i j : Int, as = [.v (.f (.int i)), .v (.f (.int j))] ∧ (-(2 ^ 62) ≤ i ∧ i < 2 ^ 62 ∧ -(2 ^ 62) ≤ j ∧ j < 2 ^ 62) ∧ Q ((List.range (j - i).toNat).map fun k : Nat => .int (i + (k : Int))) e
theorem args1 {σ : L2.St} {T0 T : Addr → Prop} {H0 H : Hp} {env0 env : Env} {F0 F : Nat → List Addr} {vs : List V} {Fa : Nat → List Addr} {d : D} (z : ArgR G σ T0 H0 env0 F0 T H env F [.v (.f d)] vs Fa) : ∃ v, vs = [v] ∧ Fz G.K (hid T H) v d := by
  have fz := args_fz z (ds := [d]) rfl
  cases fz with
  | cons a b => cases b; exact ⟨_, rfl, a⟩
theorem args2 {σ : L2.St} {T0 T : Addr → Prop} {H0 H : Hp} {env0 env : Env} {F0 F : Nat → List Addr} {vs : List V} {Fa : Nat → List Addr} {d d2 : D} (z : ArgR G σ T0 H0 env0 F0 T H env F [.v (.f d), .v (.f d2)] vs Fa) : ∃ v v2, vs = [v, v2] ∧ Fz G.K (hid T H) v d ∧ Fz G.K (hid T H) v2 d2 := by
  have fz := args_fz z (ds := [d, d2]) rfl
  cases fz with
  | cons a b => cases b with
    | cons b c => cases c; exact ⟨_, _, rfl, a, b⟩
theorem gi_r1 {a : Expr} {p : Pos} (hg : Gl X "range") (hm : X.mg "range" = none) (ha : GA X G [a] wa) (hs : starEach [a] X.env = [(false, eval a X.env)] := by rfl) : GI X G tg (.Call (.Name "range" p) [a] [] pos) (wiR1 wa) := by
  refine ⟨pi_imp (pi_range1 hg hm ha.pa hs) fun σ H R ⟨T, env, F, r, q⟩ => ⟨T, env, F, r, ha.mono _ _ _ (fun as e ⟨j, hj, h1, h2, q⟩ vs T' H' F' Fa a z => ?_) q⟩, fun env Q Q' i q => ha.mono _ _ _ (fun s e ⟨j, hj, h1, h2, q⟩ => ⟨j, hj, h1, h2, i _ _ q⟩) q⟩
  subst hj
  obtain ⟨v, rfl, fz⟩ := args1 z
  cases fz
  exact ⟨j, rfl, h1, h2, q _ T' H' F' _ a itd_rng trivial⟩
theorem gi_r2 {a b : Expr} {p : Pos} (hg : Gl X "range") (hm : X.mg "range" = none) (ha : GA X G [a, b] wa) (hs : starEach [a, b] X.env = [(false, eval a X.env), (false, eval b X.env)] := by rfl) (hs2 : starEach [b] X.env = [(false, eval b X.env)] := by rfl) : GI X G tg (.Call (.Name "range" p) [a, b] [] pos) (wiR2 wa) := by
  refine ⟨pi_imp (pi_range2 hg hm ha.pa hs hs2) fun σ H R ⟨T, env, F, r, q⟩ => ⟨T, env, F, r, ha.mono _ _ _ (fun as e ⟨i, j, hj, h1, q⟩ vs T' H' F' Fa a z => ?_) q⟩, fun env Q Q' ii q => ha.mono _ _ _ (fun s e ⟨i, j, hj, h1, q⟩ => ⟨i, j, hj, h1, ii _ _ q⟩) q⟩
  subst hj
  obtain ⟨v, v2, rfl, fz, fz2⟩ := args2 z
  cases fz
  cases fz2
  exact ⟨i, j, rfl, h1, q _ T' H' F' _ a itd_rng trivial⟩
/-! ### for -/
def wFor (wi : WI) (g : WG) (w : WS) : WS := fun D env => wi env fun ds e0 => ∃ J : Nat → Env → Prop, J 0 e0 ∧ (∀ i d e, ds[i]? = some d → J i e → g d e fun e' => w { nx := J (i + 1), ct := J (i + 1), bk := D.nx, rt := D.rt } e') ∧ ∀ e, J ds.length e → D.nx e
theorem gs_for {wi : WI} {g : WG} {ws : WS} {body : List Stmt} (hp : PassesOwn (model X.prog X.w) X.A X.env X.xe) (hc : X.calm = true) (hi : GI X G tg iter wi) (hg : GG X G tg g) (hb : GSs X G body ws) (hs : ∀ x, foldedSetIterable iter X.env x = pure x := by intro _; rfl) : GS X G (.For tg iter body [] pos) (wFor wi g ws) := by
  refine ⟨ps_imp (ps_for hp hc hi.pi hg.pg hb.pss hs) fun D σ H ⟨T, env, F, r, q⟩ => ⟨T, env, F, r, hi.mono _ _ _ (fun ds e0 ⟨J, j0, js, jd⟩ It T1 H1 F1 Bs a it b0 => ?_) q⟩, fun D D' env l q => hi.mono _ _ _ (fun ds e0 ⟨J, j0, js, jd⟩ => ⟨J, j0, fun i d e hd hj => hg.mono _ _ _ _ (fun e' q => hb.mono { nx := J (i + 1), ct := J (i + 1), bk := D.nx, rt := D.rt } _ _ ⟨fun _ q => q, fun s e q => l.rt s e q, fun e q => l.nx e q, fun _ q => q⟩ q) (js i d e hd hj), fun e hj => l.nx e (jd e hj)⟩) q⟩
  refine ⟨fun i m σ H => m = ds.length - i ∧ i ≤ ds.length ∧ ∃ T' env' F', RE G T' H σ env' F' ∧ Bs T' H ∧ J i env' ∧ Ex (hid T1 H1) (hid T' H), ⟨_, rfl, Nat.zero_le _, T1, e0, F1, a.re, b0, j0, Ex.refl _⟩, ?_⟩
  rintro i m σ' H' ⟨rfl, hi', T', env', F', r', b', j', x'⟩
  have x0 := (a.chg.hid r.sub).trans x'
  by_cases hlt : i < ds.length
  · obtain ⟨go, yl⟩ := it.go i T' H' r'.trk b' hlt
    refine .inr ⟨go, fun σ2 H2 => ∃ T2 env2 F2, RE G T2 H2 σ2 env2 F2 ∧ Bs T2 H2 ∧ J (i + 1) env2 ∧ Ex (hid T1 H1) (hid T2 H2), fun σ2 H2 ⟨T2, env2, F2, r2, b2, j2, x2⟩ => ⟨ds.length - (i + 1), by omega, rfl, hlt, T2, env2, F2, r2, b2, j2, x2⟩, fun v H2 y => ?_⟩
    obtain ⟨d, hd, ex, fz⟩ := yl v H2 y
    have xi : Ex (hid T' H') (hid T' H2) := hid_mono ex
    refine ⟨T', env', F', d, r'.ex ex, fz, hg.mono _ _ _ _ (fun e' q σ3 T3 H3 F3 r3 x3 => ?_) (js i d env' hd j')⟩
    refine ⟨T3, e', F3, r3, hb.mono { nx := J (i + 1), rt := (toD G (hid T H) D).rt, bk := (toD G (hid T H) D).nx, ct := J (i + 1) } _ _ ⟨fun e q σ4 T4 H4 F4 r4 x4 => ?_, fun s e q => q, fun e q σ4 T4 H4 F4 r4 x4 => ?_, fun e q σ4 T4 H4 F4 r4 x4 => ?_⟩ q⟩
    · have xx := (xi.trans x3).trans x4
      exact ⟨T4, e, F4, r4, it.keep _ _ _ _ b' xx, q, x'.trans xx⟩
    · exact q σ4 T4 H4 F4 r4 (((x0.trans xi).trans x3).trans x4)
    · have xx := (xi.trans x3).trans x4
      exact ⟨T4, e, F4, r4, it.keep _ _ _ _ b' xx, q, x'.trans xx⟩
  · have e : i = ds.length := by omega
    subst e
    exact .inl ⟨it.stop _ T' H' b' rfl, jd env' j' σ' T' H' F' r' x0⟩
/-! ### while -/
def wWhile (t : WT) (w : WS) : WS := fun D env => ∃ J : Nat → Env → Prop, (∃ m, J m env) ∧ ∀ m e, J m e → t e fun b e' => if b = true then w { nx := fun e2 => ∃ m', m' < m ∧ J m' e2, ct := fun e2 => ∃ m', m' < m ∧ J m' e2, bk := D.nx, rt := D.rt } e' else D.nx e'
theorem gs_while {t : WT} {ws : WS} {c : Expr} {body : List Stmt} (hp : PassesOwn (model X.prog X.w) X.A X.env X.xe) (hc : GT X G c t) (hb : GSs X G body ws) : GS X G (.While c body [] pos) (wWhile t ws) := by
  refine ⟨ps_imp (ps_while hp hc.pt hb.pss) fun D σ H ⟨T, env, F, r, J, ⟨m0, j0⟩, js⟩ => ?_, fun D D' env l ⟨J, j0, js⟩ => ⟨J, j0, fun m e hj => hc.mono _ _ _ (fun b e' q => ?_) (js m e hj)⟩⟩
  · refine ⟨fun m σ H' => ∃ T' env' F', RE G T' H' σ env' F' ∧ J m env' ∧ Ex (hid T H) (hid T' H'), ⟨m0, T, env, F, r, j0, Ex.refl _⟩, ?_⟩
    rintro m σ' H' ⟨T', env', F', r', j', x'⟩
    refine ⟨T', env', F', r', hc.mono _ _ _ (fun b e q T2 H2 F2 a => ?_) (js m env' j')⟩
    have x2 := x'.trans (a.chg.hid r'.sub)
    cases b with
    | true =>
      refine ite_tt ⟨fun σ3 H3 => ∃ m', m' < m ∧ ∃ T3 env3 F3, RE G T3 H3 σ3 env3 F3 ∧ J m' env3 ∧ Ex (hid T H) (hid T3 H3), fun σ3 H3 q => q, T2, e, F2, a.re, hb.mono { nx := fun e2 => ∃ m', m' < m ∧ J m' e2, ct := fun e2 => ∃ m', m' < m ∧ J m' e2, bk := (toD G (hid T H) D).nx, rt := (toD G (hid T H) D).rt } _ _ ⟨fun e3 ⟨m', hm, hj⟩ σ3 T3 H3 F3 r3 x3 => ⟨m', hm, T3, e3, F3, r3, hj, x2.trans x3⟩, fun s e q => q, fun e3 q σ3 T3 H3 F3 r3 x3 => q σ3 T3 H3 F3 r3 (x2.trans x3), fun e3 ⟨m', hm, hj⟩ σ3 T3 H3 F3 r3 x3 => ⟨m', hm, T3, e3, F3, r3, hj, x2.trans x3⟩⟩ q⟩
    | false => exact ite_ff (q σ' T2 H2 F2 a.re x2)
  · cases b with
    | true => exact hb.mono { nx := fun e2 => ∃ m', m' < m ∧ J m' e2, ct := fun e2 => ∃ m', m' < m ∧ J m' e2, bk := D.nx, rt := D.rt } _ _ ⟨fun _ q => q, l.rt, l.nx, fun _ q => q⟩ q
    | false => exact l.nx _ q
end
end Fx

namespace Fx
open PySem PySem.Spec PyProof.Rows L2 Evl Lk

/-! ### what a def promises, over trees: the arguments, what is wanted of its value and of the arguments behind it -/
abbrev WD := List Sl → (Sl → List Sl → Prop) → Prop
def gA (K : PySem.W.Frag) (tabs : List Addr) (T : Addr → Prop) (H : Hp) (as : List Sl) (F : Nat → List Addr) (vs : List V) : Gx := ⟨K, tabs, T, H, OwnP (as.map some) F, vs.map some, fun _ => true, fun _ _ => False, fun _ => none⟩
def spW (K : PySem.W.Frag) (tabs : List Addr) (W : WD) : Sp := fun vs H Q _ => ∃ T as F, RE (gA K tabs T H as F vs) T H (vs.map some) (as.map some) F ∧
  W as fun r as' => ∀ v T' H' F' fr, RE (gA K tabs T H as F vs) T' H' (vs.map some) (as'.map some) F' → (∀ j o, as'[j]? = some (.vw o) → as[j]? = some (.vw o) ∧ F' j = F j) → ResS (gA K tabs T H as F vs) T' H' (as'.map some) F' r v fr → Q v H'
/-- the arguments behind the body: what is handed on owned stands in its slot -/
def outA : List Bool → List Sl → Env → List Sl
  | b :: fl, s :: as, e :: env => (if b = true then e.getD s else s) :: outA fl as env
  | _, _, _ => []
def OutOk : List Bool → List Sl → Env → Prop
  | b :: fl, s :: as, e :: env => (if b = true then ∃ o, e = some (.own o) else ∀ o, s ≠ .own o) ∧ OutOk fl as env
  | [], [], _ => True
  | _, _, _ => False
theorem outOk_get : ∀ {fl : List Bool} {as : List Sl} {env : Env}, OutOk fl as env → (outA fl as env).length = as.length ∧ fl.length = as.length ∧ ∀ j s, as[j]? = some s → (fl.getD j false = true ∧ (∃ o, env[j]? = some (some (.own o)) ∧ (outA fl as env)[j]? = some (.own o))) ∨ (fl.getD j false = false ∧ (∀ o, s ≠ .own o) ∧ (outA fl as env)[j]? = some s)
  | [], [], _, _ => ⟨rfl, rfl, fun j s h => by cases h⟩
  | [], _ :: _, _, h => h.elim
  | _ :: _, [], _, h => h.elim
  | _ :: _, _ :: _, [], h => h.elim
  | b :: fl, s :: as, e :: env, h => by
    obtain ⟨h1, h2⟩ := h
    obtain ⟨g1, g2, g3⟩ := outOk_get h2
    refine ⟨by simp only [outA, List.length_cons, g1], by simp only [List.length_cons, g2], fun j t hj => ?_⟩
    cases j with
    | zero =>
      cases hj
      cases b with
      | true =>
        rw [if_pos rfl] at h1
        obtain ⟨o, rfl⟩ := h1
        exact .inl ⟨rfl, o, rfl, rfl⟩
      | false =>
        rw [if_neg (by decide)] at h1
        exact .inr ⟨rfl, h1, rfl⟩
    | succ j => exact g3 j t (by simpa using hj)
def startE (N : List Str) (as : List Sl) : Env := as.map some ++ List.replicate (N.length - as.length) none
theorem map_some_get {α : Type} {l : List α} {j : Nat} {s : α} : (l.map some)[j]? = some (some s) ↔ l[j]? = some s := by
  rw [List.getElem?_map]
  cases l[j]? <;> simp
/-! ### behind a body: the arguments' state -/
def gF (K : PySem.W.Frag) (tabs : List Addr) (N : List Str) (fl : List Bool) (T : Addr → Prop) (H : Hp) (as : List Sl) (F : Nat → List Addr) (vs : List V) (xw : Xv → Env → Prop) : Gx := ⟨K, tabs, T, H, OwnP (as.map some) F, L2.start N vs, fun i => fl.getD i false, xw, fun _ => none⟩
section
variable {K : PySem.W.Frag} {tabs : List Addr} {N : List Str} {fl : List Bool} {T : Addr → Prop} {H : Hp} {as : List Sl} {F : Nat → List Addr} {vs : List V} {xw : Xv → Env → Prop}
theorem ex_none {H : Hp} : Ex (fun _ => none) H := fun _ _ h => by cases h
/-- the frame as it begins -/
theorem in_re (r : RE (gA K tabs T H as F vs) T H (vs.map some) (as.map some) F) : RE (gF K tabs N fl T H as F vs xw) T H (L2.start N vs) (startE N as) F := by
  have ha : as.length = vs.length := by have e := r.len; rwa [List.length_map, List.length_map] at e
  have sg : ∀ j t, (startE N as)[j]? = some (some t) → as[j]? = some t := fun j t h => by
    unfold startE at h
    by_cases hl : j < (as.map some).length
    · rw [List.getElem?_append_left hl] at h
      exact map_some_get.mp h
    · rw [List.getElem?_append_right (by omega), List.getElem?_replicate] at h
      split at h <;> cases h
  have so : ∀ j, IsOwn (startE N as) j → IsOwn (as.map some) j := fun j ⟨o, h⟩ => ⟨o, map_some_get.mpr (sg j _ h)⟩
  refine ⟨r.trk, r.tab, fun j t h => ?_, fun i j n h1 ⟨t, h2⟩ => r.dis i j n (so i h1) ⟨t, map_some_get.mpr (sg j t h2)⟩, .refl r.trk, fun a ⟨j, h1, h2⟩ => .inl ⟨j, so j h1, h2⟩, r.trk, fun _ _ => rfl, ?_, ex_none⟩
  · obtain ⟨v, h1, h2⟩ := r.slot j t (map_some_get.mpr (sg j t h))
    have hj : j < (vs.map some).length := (List.getElem?_eq_some_iff.mp h1).1
    refine ⟨v, ?_, h2⟩
    unfold L2.start
    rw [List.getElem?_append_left hj]
    exact h1
  · unfold startE L2.start
    rw [List.length_append, List.length_append, List.length_map, List.length_map, List.length_replicate, List.length_replicate, ha]
/-- .. as it ends -/
theorem out_re {env : Env} {σ' : L2.St} {T' : Addr → Prop} {H' : Hp} {F' : Nat → List Addr} (r : RE (gA K tabs T H as F vs) T H (vs.map some) (as.map some) F) (oo : OutOk fl as env) (r' : RE (gF K tabs N fl T H as F vs xw) T' H' σ' env F') :
    ∃ F2, RE (gA K tabs T H as F vs) T' H' (vs.map some) ((outA fl as env).map some) F2 ∧ (∀ j o, (outA fl as env)[j]? = some (.vw o) → as[j]? = some (.vw o) ∧ F2 j = F j) ∧
      ∀ s1 v fr, ResS (gF K tabs N fl T H as F vs xw) T' H' env F' s1 v fr → ResS (gA K tabs T H as F vs) T' H' ((outA fl as env).map some) F2 s1 v fr := by
  have ha : as.length = vs.length := by have e := r.len; rwa [List.length_map, List.length_map] at e
  obtain ⟨o1, o2, o3⟩ := outOk_get oo
  -- where a slot of the arguments behind comes from
  have key : ∀ j t, ((outA fl as env).map some)[j]? = some (some t) → (fl.getD j false = true ∧ ∃ o, t = .own o ∧ env[j]? = some (some (.own o))) ∨ (fl.getD j false = false ∧ as[j]? = some t ∧ ∀ o, t ≠ .own o) := fun j t h => by
    have h := map_some_get.mp h
    have hj : j < as.length := by rw [← o1]; exact (List.getElem?_eq_some_iff.mp h).1
    rcases o3 j as[j] (List.getElem?_eq_getElem hj) with ⟨b, o, e1, e2⟩ | ⟨b, n, e2⟩
    · rw [h] at e2
      cases e2
      exact .inl ⟨b, o, rfl, e1⟩
    · rw [h] at e2
      cases e2
      exact .inr ⟨b, List.getElem?_eq_getElem hj, n⟩
  have kOwn : ∀ j, IsOwn ((outA fl as env).map some) j → fl.getD j false = true ∧ IsOwn env j := fun j ⟨o, h⟩ => by
    rcases key j _ h with ⟨b, o', _, e⟩ | ⟨_, _, n⟩
    · exact ⟨b, o', e⟩
    · exact absurd rfl (n o)
  -- a view's own things are not of the frame's
  have nv : ∀ j t, as[j]? = some t → (∀ o, t ≠ .own o) → ∀ a ∈ F j, ¬ (OwnP (as.map some) F a ∨ H a = none) := fun j t hj n a ha h => by
    obtain ⟨v, _, zz⟩ := r.slot j t (map_some_get.mpr hj)
    rcases h with ⟨i, hi, hF⟩ | h
    · refine r.dis i j (fun e => ?_) hi ⟨t, map_some_get.mpr hj⟩ a hF ha
      subst e
      obtain ⟨o, ho⟩ := hi
      have ho := map_some_get.mp ho
      rw [hj] at ho
      cases ho
      exact n o rfl
    · exact r.trk a (zz.sub a ha) h
  refine ⟨fun j => if fl.getD j false = true then F' j else F j, ⟨r'.trk, r'.tab, fun j t h => ?_, fun i j n h1 ⟨t, h2⟩ a ha hb => ?_, r'.st, fun a ⟨j, h1, h2⟩ => ?_, r.trk, fun _ _ => rfl, ?_, ex_none⟩, fun j o h => ?_, fun s1 v fr z => ⟨z.rel, z.nv, fun o e i ⟨t, h⟩ a ha hF => ?_, z.from_⟩⟩
  · rcases key j t h with ⟨b, o, rfl, e⟩ | ⟨b, e, n⟩
    · obtain ⟨u, h1, h2⟩ := r'.slot j _ e
      have hj : j < as.length := by rw [← o1]; exact (List.getElem?_eq_some_iff.mp (map_some_get.mp h)).1
      refine ⟨u, ?_, by simp only [b, if_true]; exact h2⟩
      have p := r'.pin j b
      have p2 : (L2.start N vs)[j]? = (vs.map some)[j]? := by
        unfold L2.start
        rw [List.getElem?_append_left (by rw [List.length_map, ← ha]; exact hj)]
      rw [← p2]
      exact p.symm.trans h1
    · obtain ⟨u, h1, h2⟩ := r.slot j t (map_some_get.mpr e)
      refine ⟨u, h1, ?_⟩
      simp only [b, Bool.false_eq_true, if_false]
      exact h2.chg r'.st r.sub fun a ha hp => nv j t e n a ha (.inl hp)
  · obtain ⟨b, ho⟩ := kOwn i h1
    simp only [b, if_true] at ha
    rcases key j t h2 with ⟨b2, o, rfl, e⟩ | ⟨b2, e, n2⟩
    · simp only [b2, if_true] at hb
      exact r'.dis i j n ho ⟨_, e⟩ a ha hb
    · simp only [b2, Bool.false_eq_true, if_false] at hb
      exact nv j t e n2 a hb (r'.ow a ⟨i, ho, ha⟩)
  · obtain ⟨b, ho⟩ := kOwn j h1
    simp only [b, if_true] at h2
    exact r'.ow a ⟨j, ho, h2⟩
  · rw [List.length_map, List.length_map, o1, ha]
  · rcases key j _ (map_some_get.mpr h) with ⟨b, o', e, _⟩ | ⟨b, e, _⟩
    · cases e
    · exact ⟨e, by simp only [b, Bool.false_eq_true, if_false]⟩
  · rcases key i t h with ⟨b, o', rfl, e2⟩ | ⟨b, e2, n⟩
    · simp only [b, if_true] at hF
      exact z.dis o e i ⟨_, e2⟩ a ha hF
    · simp only [b, Bool.false_eq_true, if_false] at hF
      exact nv i t e2 n a hF (z.from_ o e a ha)
end
section
variable {P : Program} {w : World} {K : PySem.W.Frag} {mg : Str → Option Value} {base : Heap} {x q : Str} {st : Stmt} {N ps : List Str} {k : Nat} {tabs : List Addr} {W : WD}
theorem spW_len {as : List Sl} {vs : List V} {T : Addr → Prop} {H : Hp} {F : Nat → List Addr} (r : RE (gA K tabs T H as F vs) T H (vs.map some) (as.map some) F) : vs.length = as.length := by
  have e := r.len
  rw [List.length_map, List.length_map] at e
  exact e.symm
/-- THE RULE: a def, by its body's reading -/
theorem fx_fn {f : Addr} {fd : FuncData} (fl : List Bool) (F : Fun K x q st f fd) (S : FnScope N ps (defScope st)) (hlen : ∀ as Q, W as Q → as.length = ps.length)
    (hbody : ∀ (cdv : Value) (A : Around) (outer : List PySem.Env) (s : Shared) (H : Hp) (E : XK) (T : Addr → Prop) (P0 : Addr → Prop) (σ0 : L2.St), fd.code = cdv → Room k (A.deeper (envOfC q (defScope st) s.heap.objs.size f cdv)) →
      ∃ ws, GSs (cxOf CX0 P w K mg base N q (defScope st) f cdv A outer s H E).nox ⟨K, tabs, T, H, P0, σ0, fun i => fl.getD i false, fun _ _ => False, fun _ => none⟩ (defBody st) ws ∧
        ∀ as Q, W as Q → ws { nx := fun env => OutOk fl as env ∧ Q (.f .non) (outA fl as env), rt := fun r env => OutOk fl as env ∧ Q r (outA fl as env) } (startE N as)) : FnOk P w K mg base CX0 (k + 1) f fd ps (spW K tabs W) := by
  have lenV : ∀ vs H Q E, spW K tabs W vs H Q E → vs.length = ps.length := fun vs H Q E ⟨T, as, F, r, h⟩ => by
    rw [spW_len r]
    exact hlen as _ h
  suffices main : ∀ (cdv : Value) (A : Around) (outer : List PySem.Env) (s : Shared) (H : Hp) (vs : List V) (Q : VK) (E : XK), fd.code = cdv → Room k (A.deeper (envOfC q (defScope st) s.heap.objs.size f cdv)) → spW K tabs W vs H Q E →
      ∃ t, PSs (cxOf CX0 P w K mg base N q (defScope st) f cdv A outer s H E).nox (defBody st) t ∧ t { nx := fun _ H' => Q .non H', rt := Q } (L2.start N vs) H by
    obtain ⟨oc, od, kV, doc, pm, an, cdv, ct, osl, rfl, lk, hcd⟩ := F.ex
    refine fn_of lk hcd S lenV fun A outer s H vs Q E hr hsp => ?_
    obtain ⟨t, h, q⟩ := main cdv A outer s H vs Q E rfl hr hsp
    exact ⟨t, h.nox, q⟩
  intro cdv A outer s H vs Q E hcd hr h
  obtain ⟨T, as, F, r, hW⟩ := h
  obtain ⟨ws, hs, hq⟩ := hbody cdv A outer s H E T (OwnP (as.map some) F) (L2.start N vs) hcd hr
  refine ⟨_, hs.pss, T, startE N as, F, in_re r, ?_⟩
  let Qs : Sl → List Sl → Prop := fun r as' => ∀ v T' H' F' fr, RE (gA K tabs T H as F vs) T' H' (vs.map some) (as'.map some) F' → (∀ j o, as'[j]? = some (.vw o) → as[j]? = some (.vw o) ∧ F' j = F j) → ResS (gA K tabs T H as F vs) T' H' (as'.map some) F' r v fr → Q v H'
  refine hs.mono { nx := fun env => OutOk fl as env ∧ Qs (.f .non) (outA fl as env), rt := fun r env => OutOk fl as env ∧ Qs r (outA fl as env) } _ _ ⟨fun env ⟨oo, q⟩ σ' T' H' F' r' _ => ?_, fun s1 env ⟨oo, q⟩ v σ' T' H' F' fr r' z => ?_, fun _ h => h.elim, fun _ h => h.elim⟩ (hq as _ hW)
  · obtain ⟨F2, g1, g2, g3⟩ := out_re r oo r'
    exact q .non T' H' F2 [] g1 g2 (g3 (.f .non) .non [] ⟨⟨.non, rfl⟩, nofun, nofun, nofun⟩)
  · obtain ⟨F2, g1, g2, g3⟩ := out_re r oo r'
    exact q v T' H' F2 fr g1 g2 (g3 s1 v fr z)
end
/-! ### defs that may raise -/
section
variable {P : Program} {w : World} {K : PySem.W.Frag} {mg : Str → Option Value} {base : Heap} {x q : Str} {st : Stmt} {N ps : List Str} {k : Nat} {tabs : List Addr} {W : WDX}
end
end Fx

namespace Fx
open PySem PySem.Spec PyProof.Rows L2 Evl Lk

/-! ### a call -/
def resA : List Ag → Env → Option (List Sl)
  | [], _ => some []
  | .v (.vw _) :: _, _ => none
  | .v s :: as, e => (resA as e).map (s :: ·)
  | .slot i true :: as, e => match e[i]? with
    | some (some (.own o)) => (resA as e).map (.own o :: ·)
    | _ => none
  | .slot i false :: as, e => match e[i]? with
    | some (some (.own o)) => (resA as e).map (.vw o :: ·)
    | some (some s) => (resA as e).map (s :: ·)
    | _ => none
def slotIs (i : Nat) : Ag → Bool
  | .slot k _ => k == i
  | _ => false
def agOk : List Ag → Bool
  | [] => true
  | .slot i true :: as => !as.any (slotIs i) && agOk as
  | .slot i false :: as => !as.any (fun a => match a with | .slot k true => k == i | _ => false) && agOk as
  | _ :: as => agOk as
def idxOwn : List Ag → Nat → Option Nat
  | [], _ => none
  | .slot k true :: as, i => if k = i then some 0 else (idxOwn as i).map (· + 1)
  | _ :: as, i => (idxOwn as i).map (· + 1)
def wbGo (ags : List Ag) (as' : List Sl) : Nat → Env → Env
  | _, [] => []
  | i, s :: e => (match idxOwn ags i with | some j => as'[j]? | none => s) :: wbGo ags as' (i + 1) e
def wCall (W : WD) (wa : WA) : WE := fun env Q => wa env fun ags e => ∃ as, resA ags e = some as ∧ agOk ags = true ∧ W as fun r as' => as'.length = as.length ∧ Q r (wbGo ags as' 0 e)
def MonoD (W : WD) : Prop := ∀ as (Q Q' : Sl → List Sl → Prop), (∀ r as', Q r as' → Q' r as') → W as Q → W as Q'
theorem wbGo_len (ags : List Ag) (as' : List Sl) : ∀ (i : Nat) (e : Env), (wbGo ags as' i e).length = e.length
  | _, [] => rfl
  | i, _ :: e => by rw [wbGo, List.length_cons, wbGo_len ags as' (i + 1) e, List.length_cons]
theorem wbGo_get (ags : List Ag) (as' : List Sl) : ∀ (i : Nat) (e : Env) (k : Nat), k < e.length → (wbGo ags as' i e)[k]? = match idxOwn ags (i + k) with | some j => some as'[j]? | none => e[k]?
  | i, [], k, h => absurd h (Nat.not_lt_zero _)
  | i, s :: e, 0, h => by
    rw [wbGo]
    show some _ = _
    cases idxOwn ags i <;> rfl
  | i, s :: e, k + 1, h => by
    rw [wbGo, List.getElem?_cons_succ, wbGo_get ags as' (i + 1) e k (by simpa using h)]
    have : i + 1 + k = i + (k + 1) := by omega
    rw [this]
    cases idxOwn ags (i + (k + 1)) <;> rfl
theorem idxOwn_some : ∀ {ags : List Ag} {i j : Nat}, idxOwn ags i = some j → ags[j]? = some (.slot i true)
  | [], i, j, h => by cases h
  | .slot k true :: as, i, j, h => by
    unfold idxOwn at h
    by_cases e : k = i
    · rw [if_pos e] at h
      cases h
      subst e
      rfl
    · rw [if_neg e] at h
      cases q : idxOwn as i with
      | none => rw [q] at h; cases h
      | some m =>
        rw [q] at h
        cases h
        have z := idxOwn_some q
        simpa using z
  | .slot k false :: as, i, j, h => by
    unfold idxOwn at h
    cases q : idxOwn as i with
    | none => rw [q] at h; cases h
    | some m =>
      rw [q] at h
      cases h
      have z := idxOwn_some q
      simpa using z
  | .v s :: as, i, j, h => by
    unfold idxOwn at h
    cases q : idxOwn as i with
    | none => rw [q] at h; cases h
    | some m =>
      rw [q] at h
      cases h
      have z := idxOwn_some q
      simpa using z
theorem idxOwn_none : ∀ {ags : List Ag} {i j : Nat}, idxOwn ags i = none → ags[j]? ≠ some (.slot i true)
  | [], i, j, h => by simp
  | .slot k true :: as, i, j, h => by
    unfold idxOwn at h
    by_cases e : k = i
    · rw [if_pos e] at h
      cases h
    · rw [if_neg e] at h
      cases j with
      | zero => intro z; cases z; exact e rfl
      | succ j =>
        have z := idxOwn_none (ags := as) (i := i) (j := j) (by simpa using h)
        simpa using z
  | .slot k false :: as, i, j, h => by
    unfold idxOwn at h
    cases j with
    | zero => intro z; cases z
    | succ j =>
      have z := idxOwn_none (ags := as) (i := i) (j := j) (by simpa using h)
      simpa using z
  | .v s :: as, i, j, h => by
    unfold idxOwn at h
    cases j with
    | zero => intro z; cases z
    | succ j =>
      have z := idxOwn_none (ags := as) (i := i) (j := j) (by simpa using h)
      simpa using z
/-- an argument, resolved -/
theorem resA_get : ∀ {ags : List Ag} {e : Env} {as : List Sl}, resA ags e = some as → as.length = ags.length ∧ ∀ (j : Nat) (s : Sl), as[j]? = some s →
    (ags[j]? = some (Ag.v s) ∧ ∀ o, s ≠ .vw o) ∨ (∃ (i : Nat) (o : O), ags[j]? = some (Ag.slot i true) ∧ s = .own o ∧ e[i]? = some (some (.own o))) ∨ (∃ (i : Nat) (t : Sl), ags[j]? = some (Ag.slot i false) ∧ e[i]? = some (some t) ∧ (∀ o, s ≠ .own o) ∧ ((∃ o, t = .own o ∧ s = .vw o) ∨ t = s))
  | [], e, as, h => by
    cases h
    exact ⟨rfl, fun j s h => by cases h⟩
  | .v s :: ags, e, as, h => by
    have h : ∃ as1, resA ags e = some as1 ∧ as = s :: as1 ∧ ∀ o, s ≠ .vw o := by
      cases s with
      | vw o => cases h
      | f d =>
        unfold resA at h
        cases q : resA ags e with
        | none => rw [q] at h; cases h
        | some as1 => rw [q] at h; cases h; exact ⟨_, rfl, rfl, nofun⟩
      | own d =>
        unfold resA at h
        cases q : resA ags e with
        | none => rw [q] at h; cases h
        | some as1 => rw [q] at h; cases h; exact ⟨_, rfl, rfl, nofun⟩
    obtain ⟨as1, h1, rfl, nv⟩ := h
    obtain ⟨l, g⟩ := resA_get h1
    refine ⟨by simp only [List.length_cons, l], fun j t hj => ?_⟩
    cases j with
    | zero => cases hj; exact .inl ⟨rfl, nv⟩
    | succ j => exact g j t (by simpa using hj)
  | .slot i true :: ags, e, as, h => by
    unfold resA at h
    split at h
    · rename_i o ho
      cases q : resA ags e with
      | none => rw [q] at h; cases h
      | some as1 =>
        rw [q] at h
        cases h
        obtain ⟨l, g⟩ := resA_get q
        refine ⟨by simp only [List.length_cons, l], fun j t hj => ?_⟩
        cases j with
        | zero => cases hj; exact .inr (.inl ⟨i, o, rfl, rfl, ho⟩)
        | succ j => exact g j t (by simpa using hj)
    · cases h
  | .slot i false :: ags, e, as, h => by
    unfold resA at h
    split at h
    · rename_i o ho
      cases q : resA ags e with
      | none => rw [q] at h; cases h
      | some as1 =>
        rw [q] at h
        cases h
        obtain ⟨l, g⟩ := resA_get q
        refine ⟨by simp only [List.length_cons, l], fun j t hj => ?_⟩
        cases j with
        | zero => cases hj; exact .inr (.inr ⟨i, _, rfl, ho, nofun, .inl ⟨o, rfl, rfl⟩⟩)
        | succ j => exact g j t (by simpa using hj)
    · rename_i s hn ho
      cases q : resA ags e with
      | none => rw [q] at h; cases h
      | some as1 =>
        rw [q] at h
        cases h
        obtain ⟨l, g⟩ := resA_get q
        refine ⟨by simp only [List.length_cons, l], fun j t hj => ?_⟩
        cases j with
        | zero => cases hj; exact .inr (.inr ⟨i, _, rfl, ho, fun o e => hn o (by rw [e]), .inr rfl⟩)
        | succ j => exact g j t (by simpa using hj)
    · cases h
theorem agOk_get : ∀ {ags : List Ag}, agOk ags = true → ∀ {j k i : Nat} {b : Bool}, j ≠ k → ags[j]? = some (.slot i true) → ags[k]? = some (.slot i b) → False
  | [], _, j, k, i, b, n, h1, h2 => by cases h1
  | a :: ags, h, j, k, i, b, n, h1, h2 => by
    have hr : agOk ags = true := by
      cases a with
      | v s => exact h
      | slot m c => cases c <;> (unfold agOk at h; rw [Bool.and_eq_true] at h; exact h.2)
    cases j with
    | zero =>
      cases h1
      cases k with
      | zero => exact n rfl
      | succ k =>
        unfold agOk at h
        rw [Bool.and_eq_true] at h
        have m := List.mem_of_getElem? (show ags[k]? = some (.slot i b) from by simpa using h2)
        have q := h.1
        rw [Bool.not_eq_true'] at q
        have z : ags.any (slotIs i) = true := List.any_eq_true.mpr ⟨_, m, by simp [slotIs]⟩
        rw [q] at z
        cases z
    | succ j =>
      cases k with
      | zero =>
        cases h2
        have m := List.mem_of_getElem? (show ags[j]? = some (.slot i true) from by simpa using h1)
        cases b with
        | true =>
          unfold agOk at h
          rw [Bool.and_eq_true] at h
          have q := h.1
          rw [Bool.not_eq_true'] at q
          have z : ags.any (slotIs i) = true := List.any_eq_true.mpr ⟨_, m, by simp [slotIs]⟩
          rw [q] at z
          cases z
        | false =>
          unfold agOk at h
          rw [Bool.and_eq_true] at h
          have q := h.1
          rw [Bool.not_eq_true'] at q
          have z : ags.any (fun a => match a with | .slot k true => k == i | _ => false) = true := List.any_eq_true.mpr ⟨_, m, by simp⟩
          rw [q] at z
          cases z
      | succ k => exact agOk_get hr (fun e => n (by rw [e])) (show ags[j]? = some (.slot i true) from by simpa using h1) (show ags[k]? = some (.slot i b) from by simpa using h2)
/-- the footprints of the arguments -/
def argF (ags : List Ag) (Fa F : Nat → List Addr) (j : Nat) : List Addr := match ags[j]? with
  | some (.slot i _) => F i
  | _ => Fa j
section
variable {X : Cx} {G : Gx} {σ : L2.St} {T0 T1 : Addr → Prop} {H0 H1 : Hp} {e0 e1 : Env} {F0 F1 : Nat → List Addr} {ags : List Ag} {vs : List V} {Fa : Nat → List Addr} {as : List Sl}
theorem argF_v {j : Nat} {s : Sl} (h : ags[j]? = some (.v s)) : argF ags Fa F1 j = Fa j := by unfold argF; rw [h]
theorem argF_s {j i : Nat} {b : Bool} (h : ags[j]? = some (.slot i b)) : argF ags Fa F1 j = F1 i := by unfold argF; rw [h]
theorem call_args (r : RE G T1 H1 σ e1 F1) (z : ArgR G σ T0 H0 e0 F0 T1 H1 e1 F1 ags vs Fa) (hr : resA ags e1 = some as) (ok : agOk ags = true) :
    RE (gA G.K G.tabs T1 H1 as (argF ags Fa F1) vs) T1 H1 (vs.map some) (as.map some) (argF ags Fa F1) := by
  obtain ⟨hl, g⟩ := resA_get hr
  have sl : ∀ j s, as[j]? = some s → ∃ v, vs[j]? = some v ∧ SlR G T1 H1 s v (argF ags Fa F1 j) := fun j s hj => by
    rcases g j s hj with ⟨ha, nv⟩ | ⟨i, o, ha, rfl, he⟩ | ⟨i, t, ha, he, no, ht⟩
    · obtain ⟨v, h1, h2, _⟩ := z.val j s ha
      exact ⟨v, h1, by rw [argF_v ha]; exact h2⟩
    · obtain ⟨v, h1, h2⟩ := z.slt j i true ha
      obtain ⟨v', h3, h4⟩ := r.slot i _ he
      rw [h1] at h3
      cases h3
      exact ⟨v, h2, by rw [argF_s ha]; exact h4⟩
    · obtain ⟨v, h1, h2⟩ := z.slt j i false ha
      obtain ⟨v', h3, h4⟩ := r.slot i _ he
      rw [h1] at h3
      cases h3
      refine ⟨v, h2, ?_⟩
      rw [argF_s ha]
      rcases ht with ⟨o, rfl, rfl⟩ | rfl
      · exact h4
      · exact h4
  refine ⟨r.trk, r.tab, fun j s hj => ?_, fun j k n ⟨o, hj⟩ ⟨s, hk⟩ a ha hb => ?_, .refl r.trk, fun a h => .inl h, r.trk, fun _ _ => rfl, by rw [List.length_map, List.length_map, hl, z.len], ex_none⟩
  · obtain ⟨v, h1, h2⟩ := sl j s (map_some_get.mp hj)
    exact ⟨v, map_some_get.mpr h1, h2⟩
  · have hj := map_some_get.mp hj
    have hk := map_some_get.mp hk
    rcases g j _ hj with ⟨ga, _⟩ | ⟨i, o', ga, _, he⟩ | ⟨i, t, _, _, no, _⟩
    · rw [argF_v ga] at ha
      obtain ⟨d1, d2⟩ := z.dis j o ga
      rcases g k _ hk with ⟨gb, _⟩ | ⟨i, o', gb, _, he⟩ | ⟨i, t, gb, he, _, _⟩
      · rw [argF_v gb] at hb
        exact d2 k s (Ne.symm n) gb a ha hb
      · rw [argF_s gb] at hb
        exact d1 i ⟨_, he⟩ a ha hb
      · rw [argF_s gb] at hb
        exact d1 i ⟨_, he⟩ a ha hb
    · rw [argF_s ga] at ha
      rcases g k _ hk with ⟨gb, nv⟩ | ⟨i', o'', gb, _, he'⟩ | ⟨i', t, gb, he', _, _⟩
      · rw [argF_v gb] at hb
        cases s with
        | f d =>
          obtain ⟨v, _, q, _⟩ := z.val k _ gb
          rw [q.2] at hb
          cases hb
        | own o3 => exact (z.dis k o3 gb).1 i ⟨_, he⟩ a hb ha
        | vw o3 => exact nv o3 rfl
      · rw [argF_s gb] at hb
        by_cases e : i = i'
        · subst e; exact agOk_get ok n ga gb
        · exact r.dis i i' e ⟨_, he⟩ ⟨_, he'⟩ a ha hb
      · rw [argF_s gb] at hb
        by_cases e : i = i'
        · subst e; exact agOk_get ok n ga gb
        · exact r.dis i i' e ⟨_, he⟩ ⟨_, he'⟩ a ha hb
    · exact no o rfl
/-- what the callee may change -/
theorem call_own (z : ArgR G σ T0 H0 e0 F0 T1 H1 e1 F1 ags vs Fa) (hr : resA ags e1 = some as) {a : Addr} (h : OwnP (as.map some) (argF ags Fa F1) a) :
    (∃ (i j : Nat), ags[j]? = some (Ag.slot i true) ∧ IsOwn e1 i ∧ a ∈ F1 i) ∨ ∃ (j : Nat) (o : O), ags[j]? = some (Ag.v (.own o)) ∧ a ∈ Fa j := by
  obtain ⟨hl, g⟩ := resA_get hr
  obtain ⟨j, ⟨o, hj⟩, ha⟩ := h
  have hj := map_some_get.mp hj
  rcases g j _ hj with ⟨ga, _⟩ | ⟨i, o', ga, _, he⟩ | ⟨i, t, _, _, no, _⟩
  · rw [argF_v ga] at ha
    exact .inr ⟨j, o, ga, ha⟩
  · rw [argF_s ga] at ha
    exact .inl ⟨i, j, ga, ⟨_, he⟩, ha⟩
  · exact absurd rfl (no o)
theorem call_att {as' : List Sl} {T' : Addr → Prop} {H' : Hp} {F' : Nat → List Addr} {rs : Sl} {v : V} {fr : List Addr} (r0 : RE G T0 H0 σ e0 F0) (a1 : Att G σ T0 H0 e0 F0 T1 H1 e1 F1) (z : ArgR G σ T0 H0 e0 F0 T1 H1 e1 F1 ags vs Fa) (hr : resA ags e1 = some as) (ok : agOk ags = true)
    (hl' : as'.length = as.length) (r' : RE (gA G.K G.tabs T1 H1 as (argF ags Fa F1) vs) T' H' (vs.map some) (as'.map some) F') (hv : ∀ (j : Nat) (o : O), as'[j]? = some (.vw o) → as[j]? = some (.vw o) ∧ F' j = argF ags Fa F1 j)
    (zs : ResS (gA G.K G.tabs T1 H1 as (argF ags Fa F1) vs) T' H' (as'.map some) F' rs v fr) :
    ∃ F2, Att G σ T0 H0 e0 F0 T' H' (wbGo ags as' 0 e1) F2 ∧ Res G T0 H0 e0 F0 T' H' (wbGo ags as' 0 e1) F2 rs v fr := by
  obtain ⟨hl, g⟩ := resA_get hr
  have r1 := a1.re
  have ch : Chg T1 H1 (OwnP (as.map some) (argF ags Fa F1)) T' H' := r'.st
  have own0 : ∀ a, OwnP (as.map some) (argF ags Fa F1) a → OwnP e0 F0 a ∨ H0 a = none := fun a h => by
    rcases call_own z hr h with ⟨i, j, _, hi, ha⟩ | ⟨j, o, hj, ha⟩
    · exact a1.own a ⟨i, hi, ha⟩
    · exact z.from_ j o hj a ha
  have dom0 : ∀ a, H1 a = none → H0 a = none := fun a h => by
    cases e : H0 a with
    | none => rfl
    | some u => exact absurd h (a1.chg.dom a (by rw [e]; exact nofun))
  have subC : Sub T1 (OwnP (as.map some) (argF ags Fa F1)) := (call_args r1 z hr ok).sub
  -- what stays in the frame is not the callee's
  have K3 : ∀ i s, e1[i]? = some (some s) → idxOwn ags i = none → ∀ a ∈ F1 i, ¬ (OwnP (as.map some) (argF ags Fa F1) a ∨ H1 a = none) := fun i s hi hn a ha h => by
    rcases h with h | h
    · rcases call_own z hr h with ⟨i', j, hj, ho, ha'⟩ | ⟨j, o, hj, ha'⟩
      · have e : i' ≠ i := fun e => idxOwn_none hn (by rw [← e]; exact hj)
        exact r1.dis i' i e ho ⟨_, hi⟩ a ha' ha
      · exact (z.dis j o hj).1 i ⟨_, hi⟩ a ha' ha
    · obtain ⟨v, _, q⟩ := r1.slot i s hi
      exact r1.trk a (q.sub a ha) h
  have slot : ∀ i s, (wbGo ags as' 0 e1)[i]? = some (some s) → i < e1.length ∧ ((∃ j, idxOwn ags i = some j ∧ as'[j]? = some s) ∨ (idxOwn ags i = none ∧ e1[i]? = some (some s))) := fun i s h => by
    have hi : i < e1.length := by rw [← wbGo_len ags as' 0 e1]; exact (List.getElem?_eq_some_iff.mp h).1
    rw [wbGo_get ags as' 0 e1 i hi, Nat.zero_add] at h
    cases q : idxOwn ags i with
    | none => rw [q] at h; exact ⟨hi, .inr ⟨rfl, h⟩⟩
    | some j => rw [q] at h; exact ⟨hi, .inl ⟨j, rfl, Option.some.inj h⟩⟩
  let F2 : Nat → List Addr := fun i => match idxOwn ags i with | some j => F' j | none => F1 i
  have F2s : ∀ {i j}, idxOwn ags i = some j → F2 i = F' j := fun {i j} h => by show (match idxOwn ags i with | some j => F' j | none => F1 i) = _; rw [h]
  have F2n : ∀ {i}, idxOwn ags i = none → F2 i = F1 i := fun {i} h => by show (match idxOwn ags i with | some j => F' j | none => F1 i) = _; rw [h]
  have asOwn : ∀ {i j}, idxOwn ags i = some j → ∃ o, as[j]? = some (.own o) := fun {i j} h => by
    have ha := idxOwn_some h
    have hj : j < as.length := by rw [hl]; exact (List.getElem?_eq_some_iff.mp ha).1
    rcases g j _ (List.getElem?_eq_getElem hj) with ⟨q, _⟩ | ⟨i', o, _, e, _⟩ | ⟨i', t, q, _, _, _⟩
    · rw [ha] at q; cases q
    · exact ⟨o, by rw [List.getElem?_eq_getElem hj, e]⟩
    · rw [ha] at q; cases q
  have notvw : ∀ {i j o}, idxOwn ags i = some j → as'[j]? ≠ some (.vw o) := fun {i j o} h z2 => by
    obtain ⟨q, _⟩ := hv j o z2
    obtain ⟨o', q'⟩ := asOwn h
    rw [q] at q'
    cases q'
  have c0 : Chg T0 H0 (OwnP e0 F0) T' H' := a1.chg.trans r0.trk ch own0
  have re : RE G T' H' σ (wbGo ags as' 0 e1) F2 := by
    refine ⟨r'.trk, r'.tab, fun i s h => ?_, fun i k n ⟨o, hi⟩ ⟨s, hk⟩ a ha hb => ?_, r1.st.trans r1.t0 ch fun a h => ?_, fun a ⟨i, ⟨o, hi⟩, ha⟩ => ?_, r1.t0, r1.pin, by rw [wbGo_len]; exact r1.len, r1.hx.trans (ch.hid subC)⟩
    · obtain ⟨_, ⟨j, hj, hs⟩ | ⟨hn, hs⟩⟩ := slot i s h
      · obtain ⟨v, h1, h2⟩ := r'.slot j s (map_some_get.mpr hs)
        obtain ⟨v', h3, h4⟩ := z.slt j i true (idxOwn_some hj)
        have h1 := map_some_get.mp h1
        rw [h4] at h1
        cases h1
        exact ⟨_, h3, by rw [F2s hj]; exact h2⟩
      · obtain ⟨v, h1, h2⟩ := r1.slot i s hs
        exact ⟨v, h1, by rw [F2n hn]; exact h2.chg ch subC fun a ha hp => K3 i s hs hn a ha (.inl hp)⟩
    · obtain ⟨_, ⟨j, hj, hs⟩ | ⟨hn, hs⟩⟩ := slot i _ hi
      · rw [F2s hj] at ha
        obtain ⟨_, ⟨j', hj', hs'⟩ | ⟨hn', hs'⟩⟩ := slot k _ hk
        · rw [F2s hj'] at hb
          refine r'.dis j j' (fun e => n ?_) ⟨_, map_some_get.mpr hs⟩ ⟨_, map_some_get.mpr hs'⟩ a ha hb
          subst e
          have q := idxOwn_some hj
          rw [idxOwn_some hj'] at q
          cases q
          rfl
        · rw [F2n hn'] at hb
          exact K3 k _ hs' hn' a hb (r'.ow a ⟨j, ⟨_, map_some_get.mpr hs⟩, ha⟩)
      · rw [F2n hn] at ha
        obtain ⟨_, ⟨j', hj', hs'⟩ | ⟨hn', hs'⟩⟩ := slot k _ hk
        · rw [F2s hj'] at hb
          cases s with
          | f d =>
            obtain ⟨v, _, q⟩ := r'.slot j' _ (map_some_get.mpr hs')
            rw [q.2] at hb
            cases hb
          | own o' => exact K3 i _ hs hn a ha (r'.ow a ⟨j', ⟨_, map_some_get.mpr hs'⟩, hb⟩)
          | vw o' => exact notvw hj' hs'
        · rw [F2n hn'] at hb
          exact r1.dis i k n ⟨_, hs⟩ ⟨_, hs'⟩ a ha hb
    · rcases own0 a h with q | q
      · exact r0.ow a q
      · refine .inr ?_
        cases e : G.H0 a with
        | none => rfl
        | some u => exact absurd q (r0.st.dom a (by rw [e]; exact nofun))
    · have key : G.P0 a ∨ H1 a = none → G.P0 a ∨ G.H0 a = none := fun h => h.imp id fun q => by
        cases e : G.H0 a with
        | none => rfl
        | some u => exact absurd q (r1.st.dom a (by rw [e]; exact nofun))
      obtain ⟨_, ⟨j, hj, hs⟩ | ⟨hn, hs⟩⟩ := slot i _ hi
      · rw [F2s hj] at ha
        rcases r'.ow a ⟨j, ⟨_, map_some_get.mpr hs⟩, ha⟩ with q | q
        · rcases own0 a q with q | q
          · exact r0.ow a q
          · refine .inr ?_
            cases e : G.H0 a with
            | none => rfl
            | some u => exact absurd q (r0.st.dom a (by rw [e]; exact nofun))
        · exact key (.inr q)
      · rw [F2n hn] at ha
        exact r1.ow a ⟨i, ⟨_, hs⟩, ha⟩
  refine ⟨F2, ⟨c0, re, fun a ⟨i, ⟨o, hi⟩, ha⟩ => ?_, fun i o h => ?_⟩, ⟨zs.rel, fun o e i ⟨s, hi⟩ a ha hF => ?_, fun o e a ha => ?_⟩⟩
  · obtain ⟨_, ⟨j, hj, hs⟩ | ⟨hn, hs⟩⟩ := slot i _ hi
    · rw [F2s hj] at ha
      rcases r'.ow a ⟨j, ⟨_, map_some_get.mpr hs⟩, ha⟩ with q | q
      · exact own0 a q
      · exact .inr (dom0 a q)
    · rw [F2n hn] at ha
      exact a1.own a ⟨i, ⟨_, hs⟩, ha⟩
  · obtain ⟨_, ⟨j, hj, hs⟩ | ⟨hn, hs⟩⟩ := slot i _ h
    · exact absurd hs (notvw hj)
    · obtain ⟨h1, h2⟩ := a1.vw i o hs
      exact ⟨h1, by rw [F2n hn]; exact h2⟩
  · obtain ⟨_, ⟨j, hj, hs⟩ | ⟨hn, hs⟩⟩ := slot i _ hi
    · rw [F2s hj] at hF
      exact zs.dis o e j ⟨_, map_some_get.mpr hs⟩ a ha hF
    · rw [F2n hn] at hF
      exact K3 i _ hs hn a hF (zs.from_ o e a ha)
  · rcases zs.from_ o e a ha with q | q
    · exact own0 a q
    · exact .inr (dom0 a q)
/-- f(e, ..) -/
theorem ge_call {x : Str} {k j : Nat} {W : WD} {tabs : List Addr} {p pos : Pos} {e : Expr} {es : List Expr} {wa : WA} (c : Cal X.prog X.w X.K X.mg X.base k x (spW X.K tabs W)) (hr : Room j X.A) (hk : k ≤ j) (hg : Gl X x) (hK : X.K = G.K) (ht : tabs = G.tabs) (mw : MonoD W) (ha : GA X G (e :: es) wa)
    (hdb : (x == ("__debug__" : Str)) = false := by decide) (he : starEach (e :: es) X.env = (false, eval e X.env) :: starEach es X.env := by rfl) (hpl : (backTo pos (starEach es X.env)).any (·.1) = false := by rfl) :
    GE X G (.Call (.Name x p) (e :: es) [] pos) (wCall W wa) := by
  subst ht
  refine ⟨pe_imp (pe_c c hr hk hg ha.pa hdb he hpl) fun σ H Q ⟨T, env, F, r, q⟩ => ⟨T, env, F, r, ha.mono _ _ _ (fun ags e1 ⟨as, h1, h2, h3⟩ vs T1 H1 F1 Fa a1 z1 => ?_) q⟩, fun env Q Q' i q => ha.mono _ _ _ (fun ags e1 ⟨as, h1, h2, h3⟩ => ⟨as, h1, h2, mw _ _ _ (fun r as' ⟨l, q⟩ => ⟨l, i _ _ q⟩) h3⟩) q⟩
  show spW X.K G.tabs W (vs ++ []) H1 Q E0
  rw [List.append_nil, hK]
  refine ⟨T1, as, argF ags Fa F1, call_args a1.re z1 h1 h2, mw _ _ _ (fun rs as' ⟨hl, q⟩ v T' H' F' fr r' hv zs => ?_) h3⟩
  obtain ⟨F2, a2, z2⟩ := call_att r a1 z1 h1 h2 hl r' hv zs
  exact q v T' H' F2 fr a2 z2
end
end Fx

namespace Fx
open PySem PySem.Spec PyProof.Rows L2 Evl Lk

/-! ### an owned result let go; a slot's thing moved -/
def wFrz (w : WE) : WE := fun env Q => w env fun r e => ∃ o d, r = .own o ∧ o.cd = some d ∧ Q (.f d) e
/-- the slot's thing is taken out as a value -/
def wMove (i : Nat) : WE := fun env Q => ∃ o d, env[i]? = some (some (.own o)) ∧ o.cd = some d ∧ Q (.f d) (env.set i none)
section
variable {X : Cx} {G : Gx} {T T1 : Addr → Prop} {H H1 : Hp} {σ : L2.St} {env env1 : Env} {F F1 : Nat → List Addr} {e : Expr} {w : WE}
/-- an owned thing of values, let go -/
theorem Ow.frz {o : O} {v : V} {fp : List Addr} {d : D} (h : Ow G.K T H o v fp) (e : o.cd = some d) : Fz G.K (hid (fun a => T a ∧ a ∉ fp) H) v d := by
  have x : Ex (hid T H) (hid (fun a => T a ∧ a ∉ fp) H) := fun a u q => hid_of (hid_some q).1 fun z => (hid_some q).2 z.1
  cases h with
  | f a => cases e; exact a.ex x
  | lst a b c => cases e; exact .lst (SqL.of (hid_of b fun z => z.2 (List.mem_singleton.mpr rfl))) (c.ex x)
  | dic a b l c n =>
    rename_i os _
    have e : (O.fds os).map (D.dic _) = some d := e
    cases e2 : O.fds os with
    | none => rw [e2] at e; cases e
    | some es =>
      rw [e2] at e
      cases e
      exact .dic (.inl (hid_of b fun z => z.2 (List.mem_cons_self ..))) l ((c.fds e2).ex x)
  | ins => cases e
/-- .. while all else stays -/
theorem att_free {fr : List Addr} (r : RE G T H σ env F) (hp : ∀ a ∈ fr, G.P0 a ∨ G.H0 a = none) (n : ∀ i, IsS env i → ∀ a ∈ fr, a ∉ F i) : RE G (fun a => T a ∧ a ∉ fr) H σ env F := by
  have c : Chg T H (fun a => a ∈ fr ∧ T a) (fun a => T a ∧ a ∉ fr) H := ⟨fun _ _ h _ => h, fun a h q => ⟨h, fun z => q ⟨z, h⟩⟩, fun _ h => .inl h.1, fun a h => r.trk a h.1, fun _ h => h⟩
  exact r.chg c (fun a h => h.2) (fun a h => hp a h.1) fun i hi a ha hq => n i hi a hq.1 ha
theorem ge_frz (h : GE X G e w) : GE X G e (wFrz w) := by
  refine ⟨pe_imp h.pe fun σ H Q ⟨T, env, F, r, q⟩ => ⟨T, env, F, r, h.mono _ _ _ (fun s e ⟨o, d, hs, hd, q⟩ v T1 H1 F1 fr a z => ?_) q⟩, fun env Q Q' i q => h.mono _ _ _ (fun s e ⟨o, d, hs, hd, q⟩ => ⟨o, d, hs, hd, i _ _ q⟩) q⟩
  subst hs
  have rel : Ow G.K T1 H1 o v fr := z.rel
  have zs := resS r z nofun
  have re := att_free a.re (zs.from_ o rfl) (z.dis o rfl)
  refine q v _ H1 F1 [] ⟨⟨a.chg.keep, fun x hx n => ⟨a.chg.tk x hx n, fun hf => ?_⟩, fun x hx => a.chg.tf x hx.1, re.trk, a.chg.dom⟩, re, a.own, a.vw⟩ (res_f (rel.frz hd))
  rcases z.from_ o rfl x hf with p | p
  · exact n p
  · exact r.trk x hx p
theorem set_none_own {i j : Nat} (h : IsOwn (env.set i none) j) : j ≠ i ∧ IsOwn env j := by
  obtain ⟨o, h⟩ := h
  rcases set_get h with ⟨_, e⟩ | ⟨n, e⟩
  · cases e
  · exact ⟨n, o, e⟩
theorem set_none_s {i j : Nat} (h : IsS (env.set i none) j) : j ≠ i ∧ IsS env j := by
  obtain ⟨o, h⟩ := h
  rcases set_get h with ⟨_, e⟩ | ⟨n, e⟩
  · cases e
  · exact ⟨n, o, e⟩
theorem ge_move {i : Nat} (h : PE X e (tVar i)) : GE X G e (wMove i) := by
  refine ⟨pe_imp h fun σ H Q ⟨T, env, F, r, o, d, ho, hd, q⟩ => ?_, fun env Q Q' i ⟨o, d, ho, hd, q⟩ => ⟨o, d, ho, hd, i _ _ q⟩⟩
  obtain ⟨v, h1, h2⟩ := r.slot i _ ho
  have h2 : Ow G.K T H o v (F i) := h2
  have own : ∀ a ∈ F i, OwnP env F a := fun a ha => ⟨i, ⟨o, ho⟩, ha⟩
  have re := att_free (fr := F i) (r.drop i) (fun a ha => r.ow a (own a ha)) fun j hj a ha hb => by
    obtain ⟨n, hj⟩ := set_none_s hj
    exact r.dis i j n.symm ⟨o, ho⟩ hj a ha hb
  refine ⟨v, h1, q v _ H F [] ⟨⟨fun _ _ h _ => h, fun x hx n => ⟨hx, fun hf => n (own x hf)⟩, fun x hx => .inl hx.1, re.trk, fun _ h => h⟩, re, fun a ⟨j, hj, ha⟩ => .inl ⟨j, (set_none_own hj).2, ha⟩, fun j o h => ?_⟩ (res_f (h2.frz hd))⟩
  rcases set_get h with ⟨_, e⟩ | ⟨n, e⟩
  · cases e
  · exact ⟨e, rfl⟩
/-! ### methods of an owned list at a slot -/
theorem FzL.erase {K : PySem.W.Frag} {H : Hp} {vs : List V} {ds : List D} (h : FzL K H vs ds) (j : Nat) : FzL K H (vs.eraseIdx j) (ds.eraseIdx j) := by
  induction ds generalizing vs j with
  | nil => cases h; exact .nil
  | cons d ds ih => cases h with
    | cons a b => cases j with
      | zero => exact b
      | succ j => exact .cons a (ih b j)
theorem mt_imp {id : String} {r r' : V → List V → Hp → VK → Prop} (h : MtR X id r) (i : ∀ x ws H Q, r' x ws H Q → r x ws H Q) : MtR X id r' := fun pins s σ H x ws v us Q I rx rw' q => h pins s σ H x ws v us Q I rx rw' (i x ws H Q q)
/-! ### x[i] = e at a slot that owns a list -/
def gSetL (k : Nat) (wi : WE) : WG := fun d env Q => (∃ s, env[k]? = some (some (.own (.lst s)))) ∧ wi env fun r e => ∃ i j ds, r = .f (.int i) ∧ e[k]? = some (some (.own (.lst ds))) ∧ ixN ds.length i = some j ∧ Q (e.set k (some (.own (.lst (ds.set j d)))))
theorem gg_setL {o i : Expr} {k : Nat} {wi : WE} {pos : Pos} (ho : PE X o (tVar k)) (hi : GE X G i wi)
    (ha : ∀ v, assign (.Subscript o i pos) X.env v = (do
      let ov ← holding [v] (eval o X.env)
      let iv ← holding [v, ov] (eval i X.env)
      standAt pos
      holding [v, ov, iv] (setItem ov iv v)
      release [v, ov, iv] []) := by intro _; rfl) : GG X G (.Subscript o i pos) (gSetL k wi) := by
  refine ⟨⟨fun pins s σ H v u Q I rv ⟨T, env, F, d, r, fz, ⟨s0, h0⟩, q⟩ => (pg_sub ho hi.pe set_list ha).run pins s σ H v u Q I rv ?_⟩, fun d env Q Q' ii ⟨h0, q⟩ => ⟨h0, hi.mono _ _ _ (fun s e ⟨i, j, ds, h1, h2, h3, q⟩ => ⟨i, j, ds, h1, h2, h3, ii _ q⟩) q⟩, fun _ _ _ q => q⟩
  obtain ⟨p0, vs0, s1, hp0, _, _⟩ := own_lst r h0
  refine ⟨_, s1, T, env, F, r, hi.mono _ _ _ (fun s e ⟨i, j, ds, h1, h2, h3, q⟩ y T1 H1 F1 fr a z => ?_) q⟩
  subst h1
  have zr := z.rel.1
  cases zr
  obtain ⟨p, vs, s2, hp, f1, upd_⟩ := own_lst a.re h2
  rw [s1] at s2
  cases s2
  have a2 := upd_ (vs.set j v) (ds.set j d) (f1.set (Fz.att r a fz) j)
  exact ⟨p0, vs, i, j, rfl, rfl, hp, by rw [f1.length]; exact h3, q σ T1 _ F1 a2.re ((a.chg.hid r.sub).trans (a2.chg.hid a.re.sub))⟩
/-! x[i] op= e -/
end
end Fx

namespace Fx
open PySem PySem.Spec PyProof.Rows L2 Evl Lk

/-! ### comprehensions: the list that is made is owned -/
inductive Tgt where
  | name (j : Nat) | tup (js : List Nat)
def gNames : List Nat → TGs
  | [] => gNil
  | j :: js => gCons (gName j) (gNames js)
def Tgt.tg (K : PySem.W.Frag) : Tgt → TG
  | .name j => gName j
  | .tup js => gTup K js.length (gNames js)
def Tgt.js : Tgt → List Nat
  | .name j => [j]
  | .tup js => js
def Tgt.get : Tgt → D → Option (List D)
  | .name _, d => some [d]
  | .tup js, .tup ds => if ds.length = js.length then some ds else none
  | .tup _, _ => none
def setS : L2.St → List Nat → List V → L2.St
  | σ, j :: js, v :: vs => setS (σ.set j (some v)) js vs
  | σ, _, _ => σ
def setE : Env → List Nat → List D → Env
  | e, j :: js, d :: ds => setE (e.set j (some (.f d))) js ds
  | e, _, _ => e
def wipeE : Env → List Nat → Env
  | e, [] => e
  | e, v :: vs => (wipeE e vs).set v none
theorem gNames_of {σ : L2.St} {H : Hp} {R : L2.St → Hp → Prop} : ∀ {js : List Nat} {vs : List V} {σ : L2.St}, vs.length = js.length → R (setS σ js vs) H → gNames js vs σ H R
  | [], [], _, _, q => ⟨rfl, q⟩
  | [], _ :: _, _, h, _ => by cases h
  | _ :: _, [], _, h, _ => by cases h
  | j :: js, v :: vs, σ, h, q => ⟨v, vs, rfl, gNames_of (σ := σ) (js := js) (by simpa using h) q⟩
theorem setS_len : ∀ (js : List Nat) (vs : List V) (σ : L2.St), (setS σ js vs).length = σ.length
  | [], vs, σ => by cases vs <;> rfl
  | j :: js, [], σ => rfl
  | j :: js, v :: vs, σ => by rw [setS, setS_len js vs, List.length_set]
theorem setS_out : ∀ {js : List Nat} {vs : List V} {σ : L2.St} {i : Nat}, i ∉ js → (setS σ js vs)[i]? = σ[i]?
  | [], vs, σ, i, h => by cases vs <;> rfl
  | j :: js, [], σ, i, h => rfl
  | j :: js, v :: vs, σ, i, h => by
    have n : j ≠ i := fun e => h (by rw [e]; exact List.mem_cons_self ..)
    rw [setS, setS_out (fun z => h (List.mem_cons_of_mem _ z)), List.getElem?_set_ne n]
theorem wipe_get {σ : L2.St} : ∀ {vs : List Nat} {i : Nat}, (wipe σ vs)[i]? = if i ∈ vs then (if i < σ.length then some none else none) else σ[i]?
  | [], i => by simp [wipe]
  | v :: vs, i => by
    by_cases e : i = v
    · subst e
      rw [if_pos (List.mem_cons_self ..), wipe]
      by_cases hl : i < σ.length
      · rw [if_pos hl, List.getElem?_set_self (by rw [wipe_length]; exact hl)]
      · rw [if_neg hl, List.getElem?_eq_none (by rw [List.length_set, wipe_length]; omega)]
    · rw [wipe, List.getElem?_set_ne (Ne.symm e), wipe_get (vs := vs)]
      by_cases h : i ∈ vs
      · rw [if_pos h, if_pos (List.mem_cons_of_mem _ h)]
      · rw [if_neg h, if_neg (fun z => (List.mem_cons.mp z).elim e h)]
theorem wipe_eq {σ1 σ2 : L2.St} {vs : List Nat} (hl : σ1.length = σ2.length) (h : ∀ i, i ∉ vs → σ1[i]? = σ2[i]?) : wipe σ1 vs = wipe σ2 vs := by
  refine List.ext_getElem? fun i => ?_
  rw [wipe_get, wipe_get]
  by_cases hi : i ∈ vs
  · rw [if_pos hi, if_pos hi, hl]
  · rw [if_neg hi, if_neg hi, h i hi]
theorem wipeE_some {e : Env} {s : Sl} : ∀ {vs : List Nat} {i : Nat}, (wipeE e vs)[i]? = some (some s) → e[i]? = some (some s) ∧ i ∉ vs
  | [], i, h => ⟨h, by simp⟩
  | v :: vs, i, h => by
    rw [wipeE] at h
    rcases set_get h with ⟨_, e⟩ | ⟨n, h⟩
    · cases e
    · obtain ⟨h1, h2⟩ := wipeE_some h
      exact ⟨h1, fun z => (List.mem_cons.mp z).elim n h2⟩
section
variable {G : Gx} {T T1 : Addr → Prop} {H H1 : Hp} {σ σ' : L2.St} {env env1 e : Env} {F F1 : Nat → List Addr}
theorem RE.wipeE (r : RE G T H σ env F) (vs : List Nat) : RE G T H σ (wipeE env vs) F := by
  induction vs with
  | nil => exact r
  | cons v vs ih => exact ih.drop v
/-- other slots' values, where nothing is known -/
theorem RE.sigma (r : RE G T H σ (Fx.wipeE e vs) F) (hl : σ'.length = σ.length) (h : ∀ i, i ∉ vs → σ'[i]? = σ[i]?) (hp : ∀ i ∈ vs, G.prot i = false) : RE G T H σ' (Fx.wipeE e vs) F :=
  ⟨r.trk, r.tab, fun i s hi => by
    obtain ⟨v, h1, h2⟩ := r.slot i s hi
    exact ⟨v, by rw [h i (wipeE_some hi).2]; exact h1, h2⟩, r.dis, r.st, r.ow, r.t0, fun i hi => by
    rw [h i (fun z => by rw [hp i z] at hi; cases hi)]
    exact r.pin i hi, by rw [hl]; exact r.len, r.hx⟩
theorem RE.names {js : List Nat} (hp : ∀ i, i ∈ js → G.prot i = false) : ∀ {js' : List Nat} {ds : List D} {vs : List V} {σ : L2.St} {env : Env} {F : Nat → List Addr}, (∀ i ∈ js', i ∈ js) → RE G T H σ env F → FzL G.K (hid T H) vs ds → (∀ j ∈ js', j < σ.length) →
    ∃ F', RE G T H (setS σ js' vs) (setE env js' ds) F' ∧ ∀ k, k ∉ js' → F' k = F k
  | [], ds, vs, σ, env, F, _, r, f, _ => by
    cases vs <;> cases ds <;> exact ⟨F, r, fun _ _ => rfl⟩
  | j :: js', ds, vs, σ, env, F, sub, r, f, hl => by
    cases f with
    | nil => exact ⟨F, r, fun _ _ => rfl⟩
    | cons a b =>
      have r2 := r.store (r := .f _) j (hl j (List.mem_cons_self ..)) (hp j (sub j (List.mem_cons_self ..))) nofun (fr := []) ⟨a, rfl⟩ nofun nofun
      obtain ⟨F', r3, h3⟩ := RE.names hp (fun i hi => sub i (List.mem_cons_of_mem _ hi)) r2 b fun k hk => by rw [List.length_set]; exact hl k (List.mem_cons_of_mem _ hk)
      refine ⟨F', r3, fun k hk => ?_⟩
      rw [h3 k (fun z => hk (List.mem_cons_of_mem _ z)), upF_ne (fun z => hk (by rw [z]; exact List.mem_cons_self ..))]
theorem setE_s : ∀ {js : List Nat} {ds : List D} {env : Env} {i : Nat} {s : Sl}, (setE env js ds)[i]? = some (some s) → (i ∈ js ∧ ∃ d, s = .f d) ∨ env[i]? = some (some s)
  | [], ds, env, i, s, h => by cases ds <;> exact .inr h
  | j :: js, [], env, i, s, h => .inr h
  | j :: js, d :: ds, env, i, s, h => by
    rcases setE_s (js := js) (ds := ds) h with ⟨a, b⟩ | h
    · exact .inl ⟨List.mem_cons_of_mem _ a, b⟩
    · rcases set_get h with ⟨e, z⟩ | ⟨_, h⟩
      · cases z
        exact .inl ⟨by rw [e]; exact List.mem_cons_self .., d, rfl⟩
      · exact .inr h
end
/-- [e for t in xs if c]; vs: the comprehension's own slots -/
def wLc (wi : WI) (tg : Tgt) (vs : List Nat) (t : WT) (w : WE) : WE := fun env Q => wi env fun ds e0 => ds.length ≤ 100000 ∧ ∃ J : Nat → List D → Env → Prop, J 0 [] e0 ∧
  (∀ i d acc e, ds[i]? = some d → J i acc e → ∃ xs, tg.get d = some xs ∧ t (setE (wipeE e vs) tg.js xs) fun b e2 => if b = true then w e2 fun r e3 => ∃ d', r = .f d' ∧ J (i + 1) (acc ++ [d']) e3 else J (i + 1) acc e2) ∧
  ∀ acc e, J ds.length acc e → Q (.own (.lst acc)) (wipeE e vs)
def wYes : WT := fun env Q => Q true env
section
variable {X : Cx} {G : Gx} {elt iter : Expr} {wi : WI} {tg : Tgt} {vs : List Nat} {t : WT} {w : WE}
theorem lcW {tt : TT} (hi : MonoI wi) (hw : MonoE w) (htt : ∀ σ H Q, tWT G t σ H Q → tt σ H Q) (mt : MonoT t) (hsub : ∀ j ∈ tg.js, j ∈ vs) (hp : ∀ i ∈ vs, G.prot i = false) {σ : L2.St} (hlen : ∀ i ∈ vs, i < σ.length) {H : Hp} {Q : VK} (h : tW G (wLc wi tg vs t w) σ H Q) :
    tLc (tWI G wi) (tg.tg G.K) tt (tW G w) vs σ H Q := by
  obtain ⟨T, env, F, r, q⟩ := h
  refine ⟨T, env, F, r, hi _ _ _ (fun ds e0 ⟨hz, J, j0, js, jd⟩ It T1 H1 F1 Bs a it b0 => ?_) q⟩
  intro Dl nD
  have Hnone : H Dl = none := by
    cases e : H Dl with
    | none => rfl
    | some u => exact absurd nD (a.chg.dom Dl (by rw [e]; exact nofun))
  have G0none : G.P0 Dl ∨ G.H0 Dl = none := .inr (by
    cases e : G.H0 Dl with
    | none => rfl
    | some u => exact absurd Hnone (r.st.dom Dl (by rw [e]; exact nofun)))
  -- one state between two turns
  let S : Nat → Hp → Prop := fun i H' => ∃ T' env' F' acc vacc, Att G σ T H env F T' H' (wipeE env' vs) F' ∧ Bs T' H' ∧ T' Dl ∧ H' Dl = some (.lst vacc) ∧ FzL G.K (hid T' H') vacc acc ∧ (∀ k, IsS (wipeE env' vs) k → Dl ∉ F' k) ∧ acc.length ≤ i ∧ J i acc env'
  have start : S 0 (upd H1 Dl (.lst [])) := by
    have a1 := att_new (o := HO.lst []) a.re nD
    have re := a1.re.wipeE vs
    refine ⟨_, e0, F1, [], [], ⟨(a.trans r.trk a1).chg, re, fun x ⟨k, ⟨o, hk⟩, hx⟩ => a.own x ⟨k, ⟨o, (wipeE_some hk).1⟩, hx⟩, fun k o hk => a.vw k o (wipeE_some hk).1⟩, it.keep _ _ _ _ b0 (hid_new nD), .inr rfl, upd_same, .nil, fun k ⟨s, hk⟩ hF => ?_, Nat.le_refl _, j0⟩
    obtain ⟨v, _, z⟩ := a.re.slot k s (wipeE_some hk).1
    exact a.re.trk Dl (z.sub Dl hF) nD
  refine ⟨fun i m H' => m = ds.length - i ∧ i ≤ ds.length ∧ S i H', ⟨_, rfl, Nat.zero_le _, start⟩, ?_⟩
  rintro i m H' ⟨rfl, hi', T', env', F', acc, vacc, a', b', tD, hD, fa, nF, hacc, j'⟩
  by_cases hlt : i < ds.length
  · obtain ⟨go, yl⟩ := it.go i T' H' a'.re.trk b' hlt
    refine .inr ⟨go, S (i + 1), fun H2 s2 => ⟨ds.length - (i + 1), by omega, rfl, hlt, s2⟩, fun x H2 y => ?_⟩
    obtain ⟨d, hd, ex, fz⟩ := yl x H2 y
    obtain ⟨xs, hx, jt⟩ := js i d acc env' hd j'
    -- the target's slots
    have re2 : RE G T' H2 (wipe σ vs) (wipeE env' vs) F' := (a'.re.ex ex).sigma (wipe_length σ vs) (fun k hk => by rw [wipe_get, if_neg hk]) hp
    have lw : ∀ j ∈ tg.js, j < (wipe σ vs).length := fun j hj => by rw [wipe_length]; exact hlen j (hsub j hj)
    have go2 : ∀ R : L2.St → Hp → Prop, (∀ ws F2, RE G T' H2 (setS (wipe σ vs) tg.js ws) (setE (wipeE env' vs) tg.js xs) F2 → (∀ k, k ∉ tg.js → F2 k = F' k) → R (setS (wipe σ vs) tg.js ws) H2) → tg.tg G.K x (wipe σ vs) H2 R := by
      intro R k
      cases tg with
      | name j =>
        have hx : some [d] = some xs := hx
        cases hx
        obtain ⟨F2, r2, f2⟩ := RE.names (js := vs) hp (js' := [j]) hsub re2 (.cons fz .nil) lw
        exact k [x] F2 r2 f2
      | tup ks =>
        cases d with
        | tup ds' =>
          have hx : (if ds'.length = ks.length then some ds' else none) = some xs := hx
          by_cases hl : ds'.length = ks.length
          · rw [if_pos hl] at hx
            cases hx
            cases fz with
            | tup l fl =>
              rename_i p ws
              obtain ⟨F2, r2, f2⟩ := RE.names (js := vs) hp (js' := ks) hsub re2 fl lw
              exact ⟨_, _, rfl, ex_t hid_ex l, fl.length.trans hl, gNames_of (σ := wipe σ vs) (fl.length.trans hl) (k ws F2 r2 f2)⟩
          · rw [if_neg hl] at hx
            cases hx
        | _ => cases hx
    refine go2 _ fun ws F2 r2 f2 => ?_
    generalize hσ : setS (wipe σ vs) tg.js ws = σ2 at r2
    have sg : ∀ k, k ∉ vs → σ2[k]? = σ[k]? := fun k hk => by
      rw [← hσ, setS_out (fun z => hk (hsub k z)), wipe_get, if_neg hk]
    have ln : σ2.length = σ.length := by rw [← hσ, setS_len, wipe_length]
    refine ⟨wipe_eq ln sg, ?_⟩
    generalize henv : setE (wipeE env' vs) tg.js xs = env2 at r2 jt
    -- slots of the turn
    have sl2 : ∀ k s, env2[k]? = some (some s) → ((∃ d, s = .f d) ∧ F2 k = []) ∨ ((wipeE env' vs)[k]? = some (some s) ∧ F2 k = F' k) := fun k s h => by
      rw [← henv] at h
      rcases setE_s h with ⟨_, d, e⟩ | h'
      · subst e
        rw [henv] at h
        obtain ⟨v, _, z⟩ := r2.slot k _ h
        exact .inl ⟨⟨d, rfl⟩, z.2⟩
      · exact .inr ⟨h', f2 k fun z => (wipeE_some h').2 (hsub k z)⟩
    have own2 : ∀ a, OwnP env2 F2 a → OwnP (wipeE env' vs) F' a := fun a ⟨k, ⟨o, hk⟩, ha⟩ => by
      rcases sl2 k _ hk with ⟨⟨d, e⟩, _⟩ | ⟨h, e⟩
      · cases e
      · exact ⟨k, ⟨o, h⟩, by rw [← e]; exact ha⟩
    have n2 : ∀ k, IsS env2 k → ∀ y ∈ [Dl], y ∉ F2 k := fun k ⟨s, hk⟩ y hy hF => by
      rw [List.mem_singleton.mp hy] at hF
      rcases sl2 k s hk with ⟨_, e⟩ | ⟨h, e⟩
      · rw [e] at hF; cases hF
      · rw [e] at hF; exact nF k ⟨s, h⟩ hF
    have nP : ¬ OwnP env2 F2 Dl := fun ⟨k, ⟨o, hk⟩, hF⟩ => n2 k ⟨_, hk⟩ Dl (List.mem_singleton.mpr rfl) hF
    have step : ∀ (T4 : Addr → Prop) (H4 : Hp) (e3 : Env) (F4 : Nat → List Addr), Att G σ2 T' H2 env2 F2 T4 H4 e3 F4 → Att G σ T H env F T4 H4 (wipeE e3 vs) F4 ∧ Ex (hid T' H') (hid T4 H4) ∧ T4 Dl ∧ H4 Dl = some (.lst vacc) ∧ (∀ k, IsS (wipeE e3 vs) k → Dl ∉ F4 k) := fun T4 H4 e3 F4 a4 => by
      have out := att_out (fr := [Dl]) r2.trk a4 (fun y hy => by rw [List.mem_singleton.mp hy]; exact tD) n2
      have c1 : Chg T' H' (OwnP (wipeE env' vs) F') T' H2 := ⟨fun a o h _ => ex a o h, fun _ h _ => h, fun _ h => .inl h, r2.trk, ex_dom ex⟩
      have domN : ∀ a, H2 a = none → H a = none := fun a h => by
        cases e : H a with
        | none => rfl
        | some u =>
          have h1 := a'.chg.dom a (by rw [e]; exact nofun)
          exact absurd h (ex_dom ex a h1)
      refine ⟨⟨(a'.chg.trans r.trk c1 a'.own).trans r.trk a4.chg fun a ha => a'.own a (own2 a ha), (a4.re.wipeE vs).sigma ln.symm (fun k hk => (sg k hk).symm) hp, fun a ⟨k, ⟨o, hk⟩, ha⟩ => ?_, fun k o hk => ?_⟩, (hid_mono ex).trans (a4.chg.hid r2.sub), a4.chg.tk Dl tD nP, a4.chg.keep Dl _ (ex Dl _ hD) nP, fun k ⟨s, hk⟩ hF => out k ⟨s, (wipeE_some hk).1⟩ Dl (List.mem_singleton.mpr rfl) hF⟩
      · rcases a4.own a ⟨k, ⟨o, (wipeE_some hk).1⟩, ha⟩ with h | h
        · exact a'.own a (own2 a h)
        · exact .inr (domN a h)
      · obtain ⟨h1, h2⟩ := a4.vw k o (wipeE_some hk).1
        rcases sl2 k _ h1 with ⟨⟨d, e⟩, _⟩ | ⟨h, e⟩
        · cases e
        · obtain ⟨h3, h4⟩ := a'.vw k o h
          exact ⟨h3, (h2.trans e).trans h4⟩
    refine htt _ _ _ ⟨T', env2, F2, r2, mt _ _ _ (fun b e2 q T3 H3 F3 a3 => ?_) jt⟩
    cases b with
    | false =>
      have q : J (i + 1) acc e2 := q
      obtain ⟨s1, s2, s3, s4, s5⟩ := step T3 H3 e2 F3 a3
      exact ite_ff ⟨T3, e2, F3, acc, vacc, s1, it.keep _ _ _ _ b' s2, s3, s4, fa.ex s2, s5, Nat.le_succ_of_le hacc, q⟩
    | true =>
      refine ite_tt ⟨T3, e2, F3, a3.re, hw _ _ _ (fun s e3 ⟨d', hs, j4⟩ y T4 H4 F4 fr4 a4 z4 => ?_) q⟩
      subst hs
      obtain ⟨s1, s2, s3, s4, s5⟩ := step T4 H4 e3 F4 (a3.trans r2.trk a4)
      have c5 : Chg T4 H4 (fun a => a = Dl) T4 (upd H4 Dl (.lst (vacc ++ [y]))) := Chg.write a4.re.trk rfl
      have sub5 : Sub T4 (fun a => a = Dl) := fun a h => by rw [h]; exact s3
      have x5 := c5.hid sub5
      refine ⟨vacc, s4, Nat.lt_of_le_of_lt (Nat.le_of_eq fa.length) (Nat.lt_of_le_of_lt hacc (Nat.lt_of_lt_of_le hlt (Nat.le_trans hz (by decide)))), T4, e3, F4, acc ++ [d'], vacc ++ [y], ⟨s1.chg.trans r.trk c5 (fun a h => by rw [h]; exact .inr Hnone), s1.re.chg c5 sub5 (fun a h => by rw [h]; exact G0none) fun k hk a ha h => s5 k hk (by rw [← h]; exact ha), s1.own, s1.vw⟩, it.keep _ _ _ _ b' (s2.trans x5), s3, upd_same, ((fa.ex s2).append (.cons z4.rel.1 .nil)).ex x5, s5, by rw [List.length_append]; exact Nat.succ_le_succ hacc, j4⟩
  · have e : i = ds.length := by omega
    subst e
    refine .inl ⟨it.stop _ T' H' b' rfl, ?_⟩
    refine jd acc env' j' (.ref Dl) T' H' F' [Dl] a' ⟨.lst tD hD fa, fun o _ k hk x hx hF => ?_, fun o _ x hx => ?_⟩
    · rw [List.mem_singleton.mp hx] at hF
      exact nF k hk hF
    · rw [List.mem_singleton.mp hx]
      exact .inr Hnone
end
end Fx

namespace Fx
open PySem PySem.Spec PyProof.Rows L2 Evl Lk

/-! ### comprehensions: the rules -/
section
variable {X : Cx} {G : Gx} {e : Expr} {st : Stmt} {wi : WI} {tg : Tgt} {vs : List Nat} {t : WT} {w : WE}
theorem pe_impN {t t' : TE} (h : PE X e t) (i : ∀ σ H Q, σ.length = X.N.length → t' σ H Q → t σ H Q) : PE X e t' := ⟨fun pins s σ H Q I q => h.run pins s σ H Q I (i σ H Q I.len q)⟩
theorem ps_impN {t t' : TS} (h : PS X st t) (i : ∀ D σ H, σ.length = X.N.length → t' D σ H → t D σ H) : PS X st t' := ⟨fun pins s σ H D I q => h.run pins s σ H D I (i D σ H I.len q)⟩
theorem mono_lc (mi : MonoI wi) : MonoE (wLc wi tg vs t w) := fun env Q Q' i q => mi _ _ _ (fun ds e0 ⟨hz, J, j0, js, jd⟩ => ⟨hz, J, j0, js, fun acc e hj => i _ _ (jd acc e hj)⟩) q
theorem tt_yes {σ : L2.St} {H : Hp} {Q : Bool → Hp → Prop} (h : tWT G wYes σ H Q) : tYes σ H Q := by
  obtain ⟨T, env, F, r, q⟩ := h
  exact q T H F (.refl r)
theorem mono_yes : MonoT wYes := fun _ _ _ i q => i _ _ q
theorem ge_lc {tt : TT} (h : PE X e (tLc (tWI G wi) (tg.tg G.K) tt (tW G w) vs)) (mi : MonoI wi) (mw : MonoE w) (htt : ∀ σ H Q, tWT G t σ H Q → tt σ H Q) (mt : MonoT t) (hsub : ∀ j ∈ tg.js, j ∈ vs) (hp : ∀ i ∈ vs, G.prot i = false) (hN : ∀ i ∈ vs, i < X.N.length) : GE X G e (wLc wi tg vs t w) :=
  ⟨pe_impN h fun σ H Q hl q => lcW mi mw htt mt hsub hp (fun i hi => by rw [hl]; exact hN i hi) q, mono_lc mi⟩
theorem frzW {σ : L2.St} {H : Hp} {Q : VK} (hm : MonoE w) (h : tW G (wFrz w) σ H Q) : tW G w σ H Q := by
  obtain ⟨T, env, F, r, q⟩ := h
  refine ⟨T, env, F, r, hm _ _ _ (fun s e ⟨o, d, hs, hd, q⟩ v T1 H1 F1 fr a z => ?_) q⟩
  subst hs
  have rel : Ow G.K T1 H1 o v fr := z.rel
  have zs := resS r z nofun
  have re := att_free a.re (zs.from_ o rfl) (z.dis o rfl)
  refine q v _ H1 F1 [] ⟨⟨a.chg.keep, fun x hx n => ⟨a.chg.tk x hx n, fun hf => ?_⟩, fun x hx => a.chg.tf x hx.1, re.trk, a.chg.dom⟩, re, a.own, a.vw⟩ (res_f (rel.frz hd))
  rcases z.from_ o rfl x hf with p | p
  · exact n p
  · exact r.trk x hx p
theorem mono_frz (hm : MonoE w) : MonoE (wFrz w) := fun env Q Q' i q => hm _ _ _ (fun s e ⟨o, d, hs, hd, q⟩ => ⟨o, d, hs, hd, i _ _ q⟩) q
theorem gs_setLcF {tt : TT} {i : Nat} (h : PS X st (tAsg (tLc (tWI G wi) (tg.tg G.K) tt (tW G w) vs) (gName i))) (mi : MonoI wi) (mw : MonoE w) (htt : ∀ σ H Q, tWT G t σ H Q → tt σ H Q) (mt : MonoT t) (hsub : ∀ j ∈ tg.js, j ∈ vs) (hp : ∀ i ∈ vs, G.prot i = false) (hN : ∀ i ∈ vs, i < X.N.length) (hpi : G.prot i = false) : GS X G st (wSet i (wFrz (wLc wi tg vs t w))) :=
  gs_set (ps_impN h fun D σ H hl q => lcW mi mw htt mt hsub hp (fun i hi => by rw [hl]; exact hN i hi) (frzW (mono_lc mi) q)) (mono_frz (mono_lc mi)) hpi
end

/-! ### values as the library's data -/
mutual
def D.py : D → PyData
  | .non => .none
  | .bl b => .bool b
  | .int i => .int i
  | .str x => .str x
  | .lst ds => .list (D.pyL ds)
  | .tup ds => .tuple (D.pyL ds)
  | .ty _ => .dict []
  | .dic _ _ => .dict []
def D.pyL : List D → List PyData
  | [] => []
  | d :: ds => d.py :: D.pyL ds
end
mutual
theorem dp_of {K : PySem.W.Frag} {H : Hp} : ∀ {d : D} {v : V}, Fz K H v d → d.py.canLay0 = true → Dp K H v d.py
  | .non, _, h, _ => by cases h; exact .non
  | .bl b, _, h, _ => by cases h; exact .bl b
  | .int i, _, h, _ => by cases h; exact .int i
  | .str x, _, h, _ => by cases h; exact .str x
  | .lst ds, _, h, l => by cases h with | lst a b => exact .lst a (dpL_of b (by simpa [D.py, PyData.canLay0] using l))
  | .tup ds, _, h, l => by cases h with | tup a b => exact .tup a (dpL_of b (by simpa [D.py, PyData.canLay0] using l))
  | .ty n, _, h, l => by simp [D.py, PyData.canLay0] at l
  | .dic ks ds, _, h, l => by simp [D.py, PyData.canLay0] at l
theorem dpL_of {K : PySem.W.Frag} {H : Hp} : ∀ {ds : List D} {vs : List V}, FzL K H vs ds → PyData.canLayAll0 (D.pyL ds) = true → DpAll K H vs (D.pyL ds)
  | [], _, h, _ => by cases h; exact .nil
  | d :: ds, _, h, l => by
    cases h with
    | cons a b =>
      have l' : d.py.canLay0 = true ∧ PyData.canLayAll0 (D.pyL ds) = true := by simpa [D.pyL, PyData.canLayAll0] using l
      exact .cons (dp_of a l'.1) (dpL_of b l'.2)
end
def okPy (d : D) : Bool := SeqAt.shaped d.py
theorem dp_ok {K : PySem.W.Frag} {H : Hp} {d : D} {v : V} (h : Fz K H v d) (l : okPy d = true) : Dp K H v d.py := dp_of h (SeqAt.canLay_of_shaped l)

/-! ### operations -/
section
variable {X : Cx} {G : Gx}
def dAdd : Op2
  | .int i, .int j, Q => Q (.int (i + j))
  | .str x, .str y, Q => x.length + y.length ≤ sizeLine ∧ Q (.str (x ++ y))
  | .lst a, .lst b, Q => a.length + b.length ≤ sizeLine ∧ Q (.lst (a ++ b))
  | .tup a, .tup b, Q => a.length + b.length ≤ sizeLine ∧ Q (.tup (a ++ b))
  | _, _, _ => False
/-- two lists of any kind -/
theorem cat_any {pins : List (Addr × Obj)} {s : Shared} {σ : L2.St} {H : Hp} {a b : Addr} {xs ys : List V} {Q : VK} (I : Inv X pins σ H s) (ha : SqL X.K H a xs) (hb : SqL X.K H b ys) (hz : xs.length + ys.length ≤ sizeLine)
    (q : ∀ p, H p = none → Q (.ref p) (upd H p (.lst (xs ++ ys)))) : wpAny (model X.prog X.w) X.A (binaryOp .Add (.ref a) (.ref b)) (EP X pins σ Q) X.xe s := by
  obtain ⟨its, r, ⟨o1, n1, e1, c1, d1, t1⟩, _⟩ := I.list ha
  obtain ⟨its2, r2, ⟨o2, n2, e2, c2, d2, t2⟩, _⟩ := I.list hb
  obtain ⟨cls, dd, data, sl⟩ := o1
  obtain ⟨cls2, dd2, data2, sl2⟩ := o2
  simp only at c1 t1 c2 t2
  subst c1 t1 c2 t2
  have l1 := r.length
  have l2 := r2.length
  have e : its.toArray ++ its2.toArray = (its ++ its2).toArray := by simp
  refine concat_meets ⟨_, e1, rfl⟩ ⟨_, e2, rfl⟩ noFill_list_add seq_list_add PySem.F.slot_list_add PySem.F.entry_list_add (PySem.F.args_list_add_2 _ _) (list_addW a b its.toArray its2.toArray n1 n2 dd dd2 sl sl2 (by simp; omega)) ⟨e1, e2, ?_⟩
  rw [e]
  exact ⟨.ref _, _, I.lnew (t' := s.toks) (r.append r2) (by rw [List.length_append]; omega), rfl, q _ I.fresh⟩
theorem fz_new_l {T : Addr → Prop} {H : Hp} {p : Addr} {vs : List V} {ds : List D} {K : PySem.W.Frag} (t : Trk T H) (np : H p = none) (f : FzL K (hid T H) vs ds) : Fz K (hid T (upd H p (.lst vs))) (.ref p) (.lst ds) := .lst (SqL.of (hid_of upd_same (nT t np))) (f.ex (hid_mono (Ex.new np)))
theorem fz_new_t {T : Addr → Prop} {H : Hp} {p : Addr} {vs : List V} {ds : List D} {K : PySem.W.Frag} (t : Trk T H) (np : H p = none) (f : FzL K (hid T H) vs ds) : Fz K (hid T (upd H p (.tup vs))) (.ref p) (.tup ds) := .tup (SqT.of (hid_of upd_same (nT t np))) (f.ex (hid_mono (Ex.new np)))
theorem opx_add (hK : X.K = G.K := by rfl) : OpX X G (binaryOp .Add) dAdd := by
  refine ⟨fun pins s σ H x y v u Q I rx ry ⟨T, d1, d2, t, c1, c2, q⟩ => ?_, fun a b Q Q' i q => ?_⟩
  · cases d1 with
    | int i =>
      cases d2 with
      | int j =>
        cases c1
        cases c2
        exact op_add pins s σ H _ _ v u Q I rx ry ⟨i, j, rfl, rfl, q _ H (Ex.refl H) (.int _)⟩
      | _ => exact (show False from q).elim
    | str a =>
      cases d2 with
      | str b =>
        cases c1
        cases c2
        exact op_add_str pins s σ H _ _ v u Q I rx ry ⟨a, b, rfl, rfl, q.1, q.2 _ H (Ex.refl H) (.str _)⟩
      | _ => exact (show False from q).elim
    | lst a =>
      cases d2 with
      | lst b =>
        obtain ⟨p1, vs, rfl, l1, f1⟩ := c1
        obtain ⟨p2, ws, rfl, l2, f2⟩ := c2
        cases rx
        cases ry
        refine cat_any I (by rw [hK]; exact l1) (by rw [hK]; exact l2) (by rw [f1.length, f2.length]; exact q.1) fun p np => ?_
        exact q.2 _ _ (Ex.new np) (fz_new_l t np (f1.append f2))
      | _ => exact (show False from q).elim
    | tup a =>
      cases d2 with
      | tup b =>
        cases c1 with
        | tup l1 f1 =>
          cases c2 with
          | tup l2 f2 =>
            have k1 := ex_t hid_ex l1
            have k2 := ex_t hid_ex l2
            refine op_catA pins s σ H _ _ v u Q I rx ry ⟨_, _, _, _, rfl, rfl, by rw [hK]; exact k1, by rw [hK]; exact k2, by rw [f1.length, f2.length]; exact q.1, fun e => ?_, fun n e => ?_, fun _ _ p np => ?_⟩
            · have q2 := q.2
              subst e
              cases f1
              exact q2 _ H (Ex.refl H) (.tup l2 f2)
            · have q2 := q.2
              subst e
              cases f2
              rw [List.append_nil] at q2
              exact q2 _ H (Ex.refl H) (.tup l1 f1)
            · exact q.2 _ _ (Ex.new np) (fz_new_t t np (f1.append f2))
      | _ => exact (show False from q).elim
    | _ => exact (show False from q).elim
  · cases a <;> cases b <;> first | exact i _ q | exact ⟨q.1, i _ q.2⟩ | exact q
/-- ints in, an int out -/
def dII (C : Int → Int → Prop) (g : Int → Int → Int) : Op2
  | .int i, .int j, Q => C i j ∧ Q (.int (g i j))
  | _, _, _ => False
theorem opx_ii {f : Value → Value → Sem Value} {C : Int → Int → Prop} {g : Int → Int → Int} (h : OpR X f (rI C fun i j => .int (g i j))) : OpX X G f (dII C g) := by
  refine ⟨fun pins s σ H x y v u Q I rx ry ⟨T, d1, d2, t, c1, c2, q⟩ => ?_, fun a b Q Q' i q => ?_⟩
  · cases d1 with
    | int i =>
      cases d2 with
      | int j =>
        cases c1
        cases c2
        exact h pins s σ H _ _ v u Q I rx ry ⟨i, j, rfl, rfl, q.1, q.2 _ H (Ex.refl H) (.int _)⟩
      | _ => exact (show False from q).elim
    | _ => exact (show False from q).elim
  · cases a <;> cases b <;> first | exact ⟨q.1, i _ q.2⟩ | exact q
theorem opx_ii0 {f : Value → Value → Sem Value} {g : Int → Int → Int} (h : OpR X f (rI0 fun i j => .int (g i j))) : OpX X G f (dII (fun _ _ => True) g) :=
  opx_ii fun pins s σ H x y v u Q I rx ry ⟨i, j, e1, e2, _, q⟩ => h pins s σ H x y v u Q I rx ry ⟨i, j, e1, e2, q⟩
theorem opx_sub : OpX X G (binaryOp .Sub) (dII (fun _ _ => True) fun i j => i - j) := opx_ii0 op_sub
theorem opx_mul : OpX X G (binaryOp .Mult) (dII CMulW fun i j => i * j) := opx_ii op_mulW
theorem opx_mod : OpX X G (binaryOp .Mod) (dII (fun _ j => 0 < j) fun i j => i % j) := opx_ii op_mod
theorem opx_div : OpX X G (binaryOp .FloorDiv) (dII CDivW fun i j => i / j) := opx_ii op_fdivW
theorem opx_pow : OpX X G (binaryOp .Pow) (dII CPowW fun i j => i ^ j.toNat) := opx_ii op_powW
/-- comparisons of ints, of texts -/
def dCmp (g : Int → Int → Bool) (t : List Nat → List Nat → Bool) : Op2
  | .int i, .int j, Q => Q (.bl (g i j))
  | .str x, .str y, Q => Q (.bl (t x.cps.toList y.cps.toList))
  | _, _, _ => False
theorem opx_cmp {f : Value → Value → Sem Value} {g : Int → Int → Bool} {tb : List Nat → List Nat → Bool} (h : OpR X f (rI0 fun i j => .bl (g i j))) (h2 : OpR X f (fun x y H Q => ∃ i j, x = .str i ∧ y = .str j ∧ Q (.bl (tb i.cps.toList j.cps.toList)) H)) : OpX X G f (dCmp g tb) := by
  refine ⟨fun pins s σ H x y v u Q I rx ry ⟨T, d1, d2, t, c1, c2, q⟩ => ?_, fun a b Q Q' i q => ?_⟩
  · cases d1 with
    | int i =>
      cases d2 with
      | int j =>
        cases c1
        cases c2
        exact h pins s σ H _ _ v u Q I rx ry ⟨i, j, rfl, rfl, q _ H (Ex.refl H) (.bl _)⟩
      | _ => exact (show False from q).elim
    | str i =>
      cases d2 with
      | str j =>
        cases c1
        cases c2
        exact h2 pins s σ H _ _ v u Q I rx ry ⟨i, j, rfl, rfl, q _ H (Ex.refl H) (.bl _)⟩
      | _ => exact (show False from q).elim
    | _ => exact (show False from q).elim
  · cases a <;> cases b <;> first | exact i _ q | exact q
theorem opx_lt : OpX X G (compareOp .Lt) (dCmp (fun i j => decide (i < j)) fun x y => decide (x < y)) := opx_cmp op_lt op_lt_str
theorem opx_le : OpX X G (compareOp .LtE) (dCmp (fun i j => decide (i ≤ j)) fun x y => !decide (y < x)) := opx_cmp op_le op_le_str
theorem opx_gt : OpX X G (compareOp .Gt) (dCmp (fun i j => decide (j < i)) fun x y => decide (y < x)) := opx_cmp op_gt op_gt_str
theorem opx_ge : OpX X G (compareOp .GtE) (dCmp (fun i j => decide (j ≤ i)) fun x y => !decide (x < y)) := opx_cmp op_ge op_ge_str
/-- == of any two values -/
def dEq (neg : Bool) : Op2 := fun a b Q => okPy a = true ∧ okPy b = true ∧ Q (.bl (if neg = true then !PyData.eqv a.py b.py else PyData.eqv a.py b.py))
theorem opx_eq (hu : X.A.units + 64 < cLine) (hK : X.K = G.K := by rfl) : OpX X G (compareOp .Eq) (dEq false) := by
  refine ⟨fun pins s σ H x y v u Q I rx ry ⟨T, d1, d2, t, c1, c2, q1, q2, q⟩ => ?_, fun a b Q Q' i q => ⟨q.1, q.2.1, i _ q.2.2⟩⟩
  exact op_eqD hu pins s σ H x y v u Q I rx ry ⟨_, _, hK ▸ dp_ok c1.fz q1, hK ▸ dp_ok c2.fz q2, q1, q2, q _ H (Ex.refl H) (.bl _)⟩
theorem opx_ne (hu : X.A.units + 64 < cLine) (hK : X.K = G.K := by rfl) : OpX X G (compareOp .NotEq) (dEq true) := by
  refine ⟨fun pins s σ H x y v u Q I rx ry ⟨T, d1, d2, t, c1, c2, q1, q2, q⟩ => ?_, fun a b Q Q' i q => ⟨q.1, q.2.1, i _ q.2.2⟩⟩
  exact op_neD hu pins s σ H x y v u Q I rx ry ⟨_, _, hK ▸ dp_ok c1.fz q1, hK ▸ dp_ok c2.fz q2, q1, q2, q _ H (Ex.refl H) (.bl _)⟩
/-- is None -/
def dIsN (neg : Bool) : Op2 := fun a b Q => b = .non ∧ Q (.bl (match a with | .non => !neg | _ => neg))
theorem fz_non {K : PySem.W.Frag} {T : Addr → Prop} {H : Hp} {v : V} {d : D} (h : Cz K T H v d) : decide (v = .non) = match d with | .non => true | _ => false := by
  cases d with
  | non => cases h; rfl
  | bl b => cases h; rfl
  | int b => cases h; rfl
  | str b => cases h; rfl
  | ty b => cases h <;> rfl
  | lst ds => obtain ⟨a, vs, rfl, _⟩ := h; rfl
  | dic ks ds => obtain ⟨a, vs, rfl, _⟩ := h; rfl
  | tup ds => cases h; rfl
theorem opx_isN : OpX X G (compareOp .Is) (dIsN false) := by
  refine ⟨fun pins s σ H x y v u Q I rx ry ⟨T, d1, d2, t, c1, c2, q1, q⟩ => ?_, fun a b Q Q' i q => ⟨q.1, i _ q.2⟩⟩
  subst q1
  cases c2
  refine op_isN pins s σ H _ _ v u Q I rx ry ⟨rfl, ?_⟩
  rw [fz_non c1]
  refine q _ H (Ex.refl H) ?_
  cases d1 <;> exact .bl _
theorem opx_notN : OpX X G (compareOp .IsNot) (dIsN true) := by
  refine ⟨fun pins s σ H x y v u Q I rx ry ⟨T, d1, d2, t, c1, c2, q1, q⟩ => ?_, fun a b Q Q' i q => ⟨q.1, i _ q.2⟩⟩
  subst q1
  cases c2
  refine op_notN pins s σ H _ _ v u Q I rx ry ⟨rfl, ?_⟩
  rw [fz_non c1]
  refine q _ H (Ex.refl H) ?_
  cases d1 <;> exact .bl _
/-- x in a list, a tuple, a text (one sign) -/
def dIn (neg : Bool) : Op2
  | a, .lst ds, Q => okPy a = true ∧ okPy (.lst ds) = true ∧ Q (.bl (if neg = true then !(D.pyL ds).any fun z => PyData.eqv z a.py else (D.pyL ds).any fun z => PyData.eqv z a.py))
  | a, .tup ds, Q => okPy a = true ∧ okPy (.tup ds) = true ∧ Q (.bl (if neg = true then !(D.pyL ds).any fun z => PyData.eqv z a.py else (D.pyL ds).any fun z => PyData.eqv z a.py))
  | .str x, .str z, Q => ∃ c, x = ⟨#[c]⟩ ∧ Q (.bl (if neg = true then !decide (c ∈ z.cps.toList) else decide (c ∈ z.cps.toList)))
  | _, _, _ => False
theorem dIn_mono (neg : Bool) : MonoO (dIn neg) := fun a b Q Q' i q => by
  cases b with
  | lst ds => exact ⟨q.1, q.2.1, i _ q.2.2⟩
  | tup ds => exact ⟨q.1, q.2.1, i _ q.2.2⟩
  | str z =>
    cases a with
    | str x => obtain ⟨c, e, q⟩ := q; exact ⟨c, e, i _ q⟩
    | _ => exact q
  | _ => cases a <;> exact q
theorem opx_in (hu : X.A.units + 65 < cLine) (hK : X.K = G.K := by rfl) : OpX X G (compareOp .In) (dIn false) := by
  refine ⟨fun pins s σ H x y v u Q I rx ry ⟨T, d1, d2, t, c1, c2, q⟩ => ?_, dIn_mono false⟩
  cases d2 with
  | lst ds =>
    obtain ⟨q1, q2, q⟩ := q
    exact op_inD hu pins s σ H x y v u Q I rx ry ⟨_, _, hK ▸ dp_ok c1.fz q1, (hK ▸ dp_ok c2.fz q2 : Dp X.K H y (D.lst ds).py), q1, q2, q _ H (Ex.refl H) (.bl _)⟩
  | tup ds =>
    obtain ⟨q1, q2, q⟩ := q
    exact op_inDT hu pins s σ H x y v u Q I rx ry ⟨_, _, hK ▸ dp_ok c1.fz q1, (hK ▸ dp_ok c2.fz q2 : Dp X.K H y (D.tup ds).py), q1, q2, q _ H (Ex.refl H) (.bl _)⟩
  | str z =>
    cases d1 with
    | str x1 =>
      obtain ⟨c, e, q⟩ := q
      subst e
      cases c1
      cases c2
      exact op_in_sign pins s σ H _ _ v u Q I rx ry ⟨c, z, rfl, rfl, q _ H (Ex.refl H) (.bl _)⟩
    | _ => exact (show False from q).elim
  | _ => cases d1 <;> exact (show False from q).elim
/-- x[i] -/
def dIx : Op2
  | .lst ds, .int i, Q => ∃ d, atI ds i = some d ∧ Q d
  | .tup ds, .int i, Q => ∃ d, atI ds i = some d ∧ Q d
  | .str z, .int i, Q => z.length ≤ sizeLine ∧ ∃ c, atI z.cps.toList i = some c ∧ Q (.str ⟨#[c]⟩)
  | _, _, _ => False
theorem FzL.atI {K : PySem.W.Frag} {H : Hp} {vs : List V} {ds : List D} {i : Int} {d : D} (h : FzL K H vs ds) (e : L2.atI ds i = some d) : ∃ v, L2.atI vs i = some v ∧ Fz K H v d := by
  unfold L2.atI at e ⊢
  rw [h.length]
  cases q : ixN ds.length i with
  | none => rw [q] at e; cases e
  | some j =>
    rw [q] at e
    have e : ds[j]? = some d := e
    have hj : j < vs.length := by rw [h.length]; exact (List.getElem?_eq_some_iff.mp e).1
    exact ⟨vs[j], List.getElem?_eq_getElem hj, h.get (List.getElem?_eq_getElem hj) e⟩
theorem ixx (hK : X.K = G.K := by rfl) : IxX X G dIx := by
  refine ⟨fun value slice pins s σ H x y v u Q I rx ry ⟨T, d1, d2, t, c1, c2, q⟩ hs => ?_, fun a b Q Q' i q => ?_⟩
  · cases d2 with
    | int i =>
      cases d1 with
      | lst ds =>
        obtain ⟨d, h1, q⟩ := q
        obtain ⟨a, vs, rfl, l, f⟩ := c1
        cases c2
        obtain ⟨w, e, fw⟩ := f.atI h1
        exact ix_list value slice pins s σ H _ _ v u Q I rx ry ⟨a, vs, i, w, rfl, rfl, by rw [hK]; exact l, e, q _ H (Ex.refl H) fw⟩ hs
      | tup ds =>
        obtain ⟨d, h1, q⟩ := q
        cases c1 with
        | tup l f =>
          cases c2
          obtain ⟨w, e, fw⟩ := f.atI h1
          exact ix_tup value slice pins s σ H _ _ v u Q I rx ry ⟨_, _, i, w, rfl, rfl, by rw [hK]; exact ex_t hid_ex l, e, q _ H (Ex.refl H) fw⟩ hs
      | str z =>
        obtain ⟨hz, c, h1, q⟩ := q
        cases c1
        cases c2
        exact ix_str value slice pins s σ H _ _ v u Q I rx ry ⟨z, i, c, rfl, rfl, hz, h1, q _ H (Ex.refl H) (.str _)⟩ hs
      | _ => exact (show False from q).elim
    | _ => cases d1 <;> exact (show False from q).elim
  · cases b with
    | int k =>
      cases a with
      | lst ds => obtain ⟨d, h, q⟩ := q; exact ⟨d, h, i _ q⟩
      | tup ds => obtain ⟨d, h, q⟩ := q; exact ⟨d, h, i _ q⟩
      | str z => obtain ⟨h, c, h2, q⟩ := q; exact ⟨h, c, h2, i _ q⟩
      | _ => exact q
    | _ => cases a <;> exact q
end
end Fx

namespace Fx
open PySem PySem.Spec PyProof.Rows L2 Evl Lk

/-! ### calls of built-ins -/
inductive CzL (K : PySem.W.Frag) (T : Addr → Prop) (H : Hp) : List V → List D → Prop
  | nil : CzL K T H [] []
  | cons {v : V} {vs : List V} {d : D} {ds : List D} : Cz K T H v d → CzL K T H vs ds → CzL K T H (v :: vs) (d :: ds)
abbrev OpC := List D → (D → Prop) → Prop
def MonoC (o : OpC) : Prop := ∀ a (Q Q' : D → Prop), (∀ d, Q d → Q' d) → o a Q → o a Q'
def rC (G : Gx) (o : OpC) : List V → Hp → VK → Prop := fun xs H Q => ∃ T ds, Trk T H ∧ CzL G.K T H xs ds ∧ o ds fun d => ∀ v H', Ex H H' → Fz G.K (hid T H') v d → Q v H'
structure CaX (X : Cx) (G : Gx) (f : Value) (o : OpC) : Prop where
  ok : CallR X f (rC G o)
  mono : MonoC o
def cdL : List Sl → Option (List D)
  | [] => some []
  | s :: ss => match s.cd, cdL ss with
    | some d, some ds => some (d :: ds)
    | _, _ => none
def wCB (o : OpC) (wa : WA) : WE := fun env Q => wa env fun ags e => ∃ ss ds, resA ags e = some ss ∧ cdL ss = some ds ∧ o ds fun d => Q (.f d) e
section
variable {X : Cx} {G : Gx} {e : Expr} {es : List Expr} {wa : WA} {w w1 w2 : WE}
theorem args_cz {σ : L2.St} {T0 T : Addr → Prop} {H0 H : Hp} {env0 env : Env} {F0 F : Nat → List Addr} {vs : List V} {Fa : Nat → List Addr} {ags : List Ag} {ss : List Sl} {ds : List D} (r : RE G T H σ env F) (z : ArgR G σ T0 H0 env0 F0 T H env F ags vs Fa) (h : resA ags env = some ss) (hd : cdL ss = some ds) : CzL G.K T H vs ds := by
  obtain ⟨hl, g⟩ := resA_get h
  have key : ∀ (ss : List Sl) (vs : List V) (ds : List D), vs.length = ss.length → (∀ (j : Nat) (s : Sl), ss[j]? = some s → ∃ v fr, vs[j]? = some v ∧ SlR G T H s v fr) → cdL ss = some ds → CzL G.K T H vs ds := by
    intro ss
    induction ss with
    | nil =>
      intro vs ds hl _ h
      cases h
      cases vs with
      | nil => exact .nil
      | cons _ _ => cases hl
    | cons s ss ih =>
      intro vs ds hl hv h
      cases vs with
      | nil => cases hl
      | cons v vs =>
        unfold cdL at h
        cases e1 : s.cd with
        | none => rw [e1] at h; cases h
        | some d =>
          cases e2 : cdL ss with
          | none => rw [e1, e2] at h; cases h
          | some ds' =>
            rw [e1, e2] at h
            cases h
            obtain ⟨v', fr, h1, h2⟩ := hv 0 s rfl
            cases h1
            refine .cons (h2.cz e1) (ih vs ds' (by simpa using hl) (fun j s hj => ?_) e2)
            obtain ⟨v', fr, h1, h2⟩ := hv (j + 1) s (by simpa using hj)
            exact ⟨v', fr, by simpa using h1, h2⟩
  refine key ss vs ds (by rw [z.len, hl]) (fun j s hj => ?_) hd
  rcases g j s hj with ⟨ha, _⟩ | ⟨i, o, ha, rfl, he⟩ | ⟨i, t, ha, he, _, ht⟩
  · obtain ⟨v, h1, h2, _⟩ := z.val j s ha
    exact ⟨v, _, h1, h2⟩
  · obtain ⟨v, h1, h2⟩ := z.slt j i true ha
    obtain ⟨v', h3, h4⟩ := r.slot i _ he
    rw [h1] at h3
    cases h3
    exact ⟨v, _, h2, h4⟩
  · obtain ⟨v, h1, h2⟩ := z.slt j i false ha
    obtain ⟨v', h3, h4⟩ := r.slot i _ he
    rw [h1] at h3
    cases h3
    rcases ht with ⟨o, rfl, rfl⟩ | rfl
    · exact ⟨v, _, h2, h4⟩
    · exact ⟨v, _, h2, h4⟩
theorem mono_cb {o : OpC} (ma : MonoA wa) (mo : MonoC o) : MonoE (wCB o wa) := fun env Q Q' i q => ma _ _ _ (fun ags e ⟨ss, ds, h1, h2, q⟩ => ⟨ss, ds, h1, h2, mo _ _ _ (fun d q => i _ _ q) q⟩) q
theorem ge_cb {o : OpC} (h : PE X e (tCB (rC G o) (tWA G wa))) (ma : MonoA wa) (mo : MonoC o) : GE X G e (wCB o wa) := by
  refine ⟨pe_imp h fun σ H Q ⟨T, env, F, r, q⟩ => ⟨T, env, F, r, ma _ _ _ (fun ags e ⟨ss, ds, h1, h2, q⟩ vs T1 H1 F1 Fa a z => ?_) q⟩, mono_cb ma mo⟩
  refine ⟨T1, ds, a.re.trk, args_cz a.re z h1 h2, mo _ _ _ (fun d q v H2 e2 f2 => ?_) q⟩
  exact q v T1 H2 F1 [] (a.trans r.trk (Att.ex a.re e2)) (res_f f2)
theorem cz1 {K : PySem.W.Frag} {T : Addr → Prop} {H : Hp} {vs : List V} {d : D} (h : CzL K T H vs [d]) : ∃ v, vs = [v] ∧ Cz K T H v d := by
  cases h with
  | cons a b => cases b; exact ⟨_, rfl, a⟩
theorem cz2 {K : PySem.W.Frag} {T : Addr → Prop} {H : Hp} {vs : List V} {d d2 : D} (h : CzL K T H vs [d, d2]) : ∃ v v2, vs = [v, v2] ∧ Cz K T H v d ∧ Cz K T H v2 d2 := by
  cases h with
  | cons a b => cases b with
    | cons b c => cases c; exact ⟨_, _, rfl, a, b⟩
def cLen : OpC
  | [.lst ds], Q => Q (.int ds.length)
  | [.tup ds], Q => Q (.int ds.length)
  | [.str x], Q => x.length ≤ sizeLine ∧ Q (.int x.length)
  | [.dic ks ds], Q => Q (.int ds.length)
  | _, _ => False
theorem rd_hid {T : Addr → Prop} {H : Hp} {a : Addr} {o : HO} (l : Rd (hid T H) a o) : Rd H a o := ex_rd hid_ex l
theorem cax_len (hK : X.K = G.K := by rfl) : CaX X G (.builtin "len") cLen := by
  refine ⟨fun pins s σ H xs us Q I rv ⟨T, ds, t, c, q⟩ => ?_, fun a Q Q' i q => ?_⟩
  · unfold cLen at q
    split at q
    · obtain ⟨v, rfl, cv⟩ := cz1 c
      obtain ⟨a, vs, rfl, l, f⟩ := cv
      exact call_len_seq pins s σ H _ us Q I rv ⟨a, vs, rfl, .inl (by rw [hK]; exact l), by rw [f.length]; exact q _ H (Ex.refl H) (.int _)⟩
    · obtain ⟨v, rfl, cv⟩ := cz1 c
      cases cv with
      | tup l f => exact call_len_seq pins s σ H _ us Q I rv ⟨_, _, rfl, .inr (by rw [hK]; exact ex_t hid_ex l), by rw [f.length]; exact q _ H (Ex.refl H) (.int _)⟩
    · obtain ⟨v, rfl, cv⟩ := cz1 c
      cases cv
      exact call_len_str pins s σ H _ us Q I rv ⟨_, rfl, q.1, q.2 _ H (Ex.refl H) (.int _)⟩
    · obtain ⟨v, rfl, cv⟩ := cz1 c
      obtain ⟨a, vs, rfl, l, hl, f⟩ := cv
      obtain ⟨u, rfl, ru⟩ := vals1 rv
      cases ru
      refine d_len I l fun t s' I' => ⟨.int _, H, I', ⟨t, by rw [List.length_zip, hl, Nat.min_self, f.length]⟩, q _ H (Ex.refl H) (.int _)⟩
    · exact q.elim
  · unfold cLen at q ⊢
    split at q <;> simp_all
def cMax2 : OpC
  | [.int i, .int j], Q => Q (.int (if j > i then j else i))
  | _, _ => False
def cMin2 : OpC
  | [.int i, .int j], Q => Q (.int (if j < i then j else i))
  | _, _ => False
theorem cax_max2 (hc : X.calm = true) : CaX X G (.builtin "max") cMax2 := by
  refine ⟨fun pins s σ H xs us Q I rv ⟨T, ds, t, c, q⟩ => ?_, fun a Q Q' i q => ?_⟩
  · unfold cMax2 at q
    split at q
    · obtain ⟨v, v2, rfl, c1, c2⟩ := cz2 c
      cases c1
      cases c2
      exact call_max2 hc pins s σ H _ us Q I rv ⟨_, _, rfl, q _ H (Ex.refl H) (.int _)⟩
    · exact q.elim
  · unfold cMax2 at q ⊢
    split at q <;> simp_all
theorem cax_min2 (hc : X.calm = true) : CaX X G (.builtin "min") cMin2 := by
  refine ⟨fun pins s σ H xs us Q I rv ⟨T, ds, t, c, q⟩ => ?_, fun a Q Q' i q => ?_⟩
  · unfold cMin2 at q
    split at q
    · obtain ⟨v, v2, rfl, c1, c2⟩ := cz2 c
      cases c1
      cases c2
      exact call_min2 hc pins s σ H _ us Q I rv ⟨_, _, rfl, q _ H (Ex.refl H) (.int _)⟩
    · exact q.elim
  · unfold cMin2 at q ⊢
    split at q <;> simp_all
def cList : OpC
  | [.lst ds], Q => Q (.lst ds)
  | [.tup ds], Q => Q (.lst ds)
  | _, _ => False
def cTuple : OpC
  | [.lst ds], Q => Q (.tup ds)
  | [.tup ds], Q => Q (.tup ds)
  | _, _ => False
theorem cax_tuple (hK : X.K = G.K := by rfl) : CaX X G (.type "tuple") cTuple := by
  refine ⟨fun pins s σ H xs us Q I rv ⟨T, ds, t, c, q⟩ => ?_, fun a Q Q' i q => ?_⟩
  · unfold cTuple at q
    split at q
    · obtain ⟨v, rfl, cv⟩ := cz1 c
      obtain ⟨a, vs, rfl, l, f⟩ := cv
      exact call_tuple_of pins s σ H _ us Q I rv ⟨a, vs, rfl, .inl ⟨by rw [hK]; exact l, fun p np => q _ _ (Ex.new np) (fz_new_t t np f)⟩⟩
    · obtain ⟨v, rfl, cv⟩ := cz1 c
      cases cv with
      | tup l f => exact call_tuple_of pins s σ H _ us Q I rv ⟨_, _, rfl, .inr ⟨by rw [hK]; exact ex_t hid_ex l, q _ H (Ex.refl H) (.tup l f)⟩⟩
    · exact q.elim
  · unfold cTuple at q ⊢
    split at q <;> simp_all
/-! isinstance -/
def tyN : D → String
  | .non => "NoneType"
  | .bl _ => "bool"
  | .int _ => "int"
  | .str _ => "str"
  | .lst _ => "list"
  | .tup _ => "tuple"
  | .dic _ _ => "dict"
  | .ty _ => ""
theorem kitD {pins : List (Addr × Obj)} {σ : L2.St} {H : Hp} {s : Shared} {x : V} {u : Value} {d : D} (I : Inv X pins σ H s) (h : Fz X.K H x d) (r : RelV x u) (n : ∀ m, d ≠ .ty m) :
    ∃ P : Heap → Prop, PySem.W.KitX X.K u (.type (tyN d)) P ∧ P s.heap ∧ (∀ (Pt : Addr) (h2 : Heap), (∃ ob, s.heap.get? Pt = some ob ∧ ob.cls = .none) → (∀ b o, b ≠ Pt → s.heap.get? b = some o → h2.get? b = some o) → P h2) ∧ u ≠ .builtin "__main__.__loader__#opaque" := by
  have at_ : ∀ (a : Addr) (T : String), PySem.W.KitAt a T s.heap → ∀ (Pt : Addr) (h2 : Heap), (∃ ob, s.heap.get? Pt = some ob ∧ ob.cls = .none) → (∀ b o, b ≠ Pt → s.heap.get? b = some o → h2.get? b = some o) → PySem.W.KitAt a T h2 := fun a T ⟨o, h1, h2⟩ Pt hp ⟨ob, g1, g2⟩ k => by
    refine ⟨o, k a o (fun e => ?_) h1, h2⟩
    rw [e, g1] at h1
    cases h1
    rw [g2] at h2
    cases h2
  cases h with
  | non => cases r; exact ⟨_, PySem.W.kitx_none, True.intro, fun _ _ _ _ => True.intro, fun z => nomatch z⟩
  | bl b => cases r; exact ⟨_, PySem.W.kitx_bool, True.intro, fun _ _ _ _ => True.intro, fun z => nomatch z⟩
  | int i => obtain ⟨t, rfl⟩ := _root_.id r; exact ⟨_, PySem.W.kitx_int, True.intro, fun _ _ _ _ => True.intro, fun z => nomatch z⟩
  | str y => obtain ⟨t, rfl⟩ := _root_.id r; exact ⟨_, PySem.W.kitx_str, True.intro, fun _ _ _ _ => True.intro, fun z => nomatch z⟩
  | ty m => exact absurd rfl (n m)
  | cls C => exact absurd rfl (n (.cls C))
  | exc a b => exact absurd rfl (n (.exc _ _))
  | lst l f =>
    cases r
    obtain ⟨its, rv, ⟨o, k, h1, h2, _⟩, _⟩ := I.list l
    exact ⟨_, PySem.W.kitx_list, ⟨o, h1, h2⟩, at_ _ _ ⟨o, h1, h2⟩, fun z => nomatch z⟩
  | tup l f =>
    cases r
    obtain ⟨its, rv, ⟨o, h1, h2, _⟩, _⟩ := I.tuple l
    exact ⟨_, PySem.W.kitx_tuple, ⟨o, h1, h2⟩, at_ _ _ ⟨o, h1, h2⟩, fun z => nomatch z⟩
  | dic l e f =>
    cases r
    obtain ⟨_, _, vs, _, o, es, ep, h1, h2, _⟩ := l.ok I.hok
    exact ⟨_, PySem.W.kitx_dict, ⟨o, h1, h2.1⟩, at_ _ _ ⟨o, h1, h2.1⟩, fun z => nomatch z⟩
def isiB (d : D) (n : String) : Option Bool := match d with
  | .ty _ => none
  | d => kitB (tyN d) n
def cIsi : OpC
  | [d, .ty (.bt n)], Q => ∃ b, isiB d n = some b ∧ Q (.bl b)
  | _, _ => False
theorem isiB_ty {d : D} {n : String} {b : Bool} (h : isiB d n = some b) : (∀ m, d ≠ .ty m) ∧ kitB (tyN d) n = some b := by
  cases d <;> first | exact ⟨nofun, h⟩ | cases h
theorem cax_isi (hK : X.K = G.K := by rfl) : CaX X G (.builtin "isinstance") cIsi := by
  refine ⟨fun pins s σ H xs us Q I rv ⟨T, ds, t, c, q⟩ => ?_, fun a Q Q' i q => ?_⟩
  · unfold cIsi at q
    split at q
    · obtain ⟨v, v2, rfl, c1, c2⟩ := cz2 c
      obtain ⟨b, hb, q⟩ := q
      obtain ⟨n, hk⟩ := isiB_ty hb
      cases c2
      obtain ⟨u1, u2, rfl, r1, r2⟩ := vals2 rv
      cases (show u2 = Value.type _ from r2)
      obtain ⟨P, Z, p, _, hx⟩ := kitD I (by rw [hK]; exact c1.fz) r1 n
      exact PySem.W.kia_one Z I.kIn p (kit_ty hk) hx fun tk => ⟨.bl b, H, I.tok tk, rfl, q _ H (Ex.refl H) (.bl b)⟩
    · exact q.elim
  · unfold cIsi at q ⊢
    split at q
    · obtain ⟨b, hb, q⟩ := q
      exact ⟨b, hb, i _ q⟩
    · exact q.elim
/-! ### methods of texts -/
def wJoin (w1 w2 : WE) : WE := fun env Q => w1 env fun r1 e1 => ∃ a, r1 = .f (.str a) ∧ w2 e1 fun r2 e2 => ∃ ds ys, (r2.cd = some (.lst ds) ∨ r2.cd = some (.tup ds)) ∧ ds = ys.map D.str ∧ (ys.map (·.length)).sum + ys.length * a.length ≤ 16777216 ∧ Q (.f (.str (Txt.join a ys))) e2
theorem fz_strs {K : PySem.W.Frag} {H : Hp} : ∀ {ys : List Str} {vs : List V}, FzL K H vs (ys.map D.str) → vs = ys.map V.str
  | [], _, h => by cases h; rfl
  | y :: ys, _, h => by
    cases h with
    | cons a b =>
      cases a
      rw [fz_strs b] <;> rfl
theorem ge_join {o : Expr} {apos pos : Pos} (ho : GE X G o w1) (he : GE X G e w2) (hK : X.K = G.K := by rfl) (hs : starEach [e] X.env = [(false, eval e X.env)] := by rfl) (hbase : attributeBase o "join" X.env (eval o X.env) = eval o X.env := by rfl) (hline : (apos.endLine == pos.line) = true := by rfl) :
    GE X G (.Call (.Attribute o "join" apos) [e] [] pos) (wJoin w1 w2) := by
  refine ⟨pe_imp (pe_join ho.pe he.pe hs hbase hline) fun σ H Q ⟨T, env, F, r, q⟩ => ⟨T, env, F, r, ho.mono _ _ _ (fun s e ⟨a, hs, q⟩ x T1 H1 F1 f1 a1 z1 => ?_) q⟩, fun env Q Q' i q => ho.mono _ _ _ (fun s e ⟨a, hs, q⟩ => ⟨a, hs, he.mono _ _ _ (fun s2 e2 ⟨ds, ys, h1, h2, h3, q⟩ => ⟨ds, ys, h1, h2, h3, i _ _ q⟩) q⟩) q⟩
  subst hs
  have zr := z1.rel.1
  cases zr
  refine ⟨⟨a, rfl⟩, T1, e, F1, a1.re, he.mono _ _ _ (fun s2 e2 ⟨ds, ys, h1, h2, h3, q⟩ y T2 H2 F2 f2 a2 z2 => ?_) q⟩
  subst h2
  have fin := q (.str (Txt.join a ys)) T2 H2 F2 [] (a1.trans r.trk a2) (res_f (.str _))
  rcases h1 with h1 | h1
  · obtain ⟨p, vs, rfl, l, f⟩ := z2.rel.cz h1
    rw [fz_strs f] at l
    exact ⟨a, p, ys, rfl, rfl, .inl (by rw [hK]; exact l), h3, fin⟩
  · have c := z2.rel.cz h1
    have c : Fz G.K (hid T2 H2) y (.tup _) := c
    cases c with
    | tup l f =>
      rw [fz_strs f] at l
      exact ⟨a, _, ys, rfl, rfl, .inr (by rw [hK]; exact ex_t hid_ex l), h3, fin⟩
/-! ### slices -/
abbrev WO := Env → (Option Int → Env → Prop) → Prop
def MonoOp (w : WO) : Prop := ∀ env (Q Q' : Option Int → Env → Prop), (∀ r e, Q r e → Q' r e) → w env Q → w env Q'
def tWO (G : Gx) (w : WO) : TO := fun σ H Q => ∃ T env F, RE G T H σ env F ∧ w env fun i env' => ∀ T' H' F', Att G σ T H env F T' H' env' F' → Q i H'
structure GO (X : Cx) (G : Gx) (e : Option Expr) (w : WO) : Prop where
  po : PO X e (tWO G w)
  mono : MonoOp w
theorem po_imp {e : Option Expr} {t t' : TO} (h : PO X e t) (i : ∀ σ H Q, t' σ H Q → t σ H Q) : PO X e t' := ⟨fun pins s σ H Q I q => h.run pins s σ H Q I (i σ H Q q)⟩
def woN : WO := fun env Q => Q none env
def woS (w : WE) : WO := fun env Q => w env fun r e => ∃ i, r = .f (.int i) ∧ Q (some i) e
theorem go_none : GO X G none woN := ⟨po_imp po_none fun σ H Q ⟨T, env, F, r, q⟩ => q T H F (.refl r), fun env Q Q' i q => i _ _ q⟩
theorem go_some (h : GE X G e w) : GO X G (some e) (woS w) := by
  refine ⟨po_imp (po_some h.pe) fun σ H Q ⟨T, env, F, r, q⟩ => ⟨T, env, F, r, h.mono _ _ _ (fun s e ⟨i, hs, q⟩ x T1 H1 F1 f1 a1 z1 => ?_) q⟩, fun env Q Q' ii q => h.mono _ _ _ (fun s e ⟨i, hs, q⟩ => ⟨i, hs, ii _ _ q⟩) q⟩
  subst hs
  have zr := z1.rel.1
  cases zr
  exact ⟨i, rfl, q T1 H1 F1 a1⟩
def cutD (xs : List D) (lo hi : Option Int) : List D := (xs.drop (HT.sIx xs.length 0 lo)).take (HT.sIx xs.length xs.length hi - HT.sIx xs.length 0 lo)
def dSl : D → Option Int → Option Int → (D → Prop) → Prop
  | .lst ds, lo, hi, Q => Q (.lst (cutD ds lo hi))
  | .tup ds, lo, hi, Q => Q (.tup (cutD ds lo hi))
  | .str z, lo, hi, Q => z.length ≤ sizeLine ∧ Q (.str (cutS z lo hi))
  | _, _, _, _ => False
def rSl (G : Gx) : V → Option Int → Option Int → Hp → VK → Prop := fun x lo hi H Q => ∃ T d, Trk T H ∧ Cz G.K T H x d ∧ dSl d lo hi fun d => ∀ v H', Ex H H' → Fz G.K (hid T H') v d → Q v H'
theorem FzL.cut {K : PySem.W.Frag} {H : Hp} {vs : List V} {ds : List D} (h : FzL K H vs ds) (lo hi : Option Int) : FzL K H (cutV vs lo hi) (cutD ds lo hi) := by
  unfold cutV cutD
  rw [h.length]
  exact (h.drop _).take _
theorem cutD_whole {ds : List D} {lo hi : Option Int} (h : HT.sIx ds.length 0 lo = 0 ∧ HT.sIx ds.length ds.length hi = ds.length) : cutD ds lo hi = ds := by
  unfold cutD
  rw [h.1, h.2]
  simp
theorem slx (hK : X.K = G.K := by rfl) : L2.SlR X (rSl G) := by
  intro pins s σ H x v vl vu lo hi sl Q I rx hs pl pu ⟨T, d, t, c, q⟩
  cases d with
  | lst ds =>
    obtain ⟨a, vs, rfl, l, f⟩ := c
    exact sl_list pins s σ H _ v vl vu lo hi sl Q I rx hs pl pu ⟨a, vs, rfl, by rw [hK]; exact l, fun p np => q _ _ (Ex.new np) (fz_new_l t np (f.cut lo hi))⟩
  | tup ds =>
    cases c with
    | tup l f =>
      have k := ex_t (K := G.K) hid_ex l
      refine sl_tupA pins s σ H _ v vl vu lo hi sl Q I rx hs pl pu ⟨_, _, rfl, by rw [hK]; exact k, fun h => ?_, fun _ p np => q _ _ (Ex.new np) (fz_new_t t np (f.cut lo hi))⟩
      rw [f.length] at h
      refine q _ H (Ex.refl H) ?_
      rw [cutD_whole h]
      exact .tup l f
  | str z =>
    cases c
    exact sl_str pins s σ H _ v vl vu lo hi sl Q I rx hs pl pu ⟨z, rfl, q.1, q.2 _ H (Ex.refl H) (.str _)⟩
  | _ => exact (show False from q).elim
theorem dSl_mono {d : D} {lo hi : Option Int} {Q Q' : D → Prop} (i : ∀ d, Q d → Q' d) (q : dSl d lo hi Q) : dSl d lo hi Q' := by
  cases d <;> first | exact i _ q | exact ⟨q.1, i _ q.2⟩ | exact q
/-- x[lo:hi]: a value; or the thing at a slot -/
def wSl (w : WE) (lo hi : WO) : WE := fun env Q => w env fun r e => ∃ d, r = .f d ∧ lo e fun l e2 => hi e2 fun u e3 => dSl d l u fun d => Q (.f d) e3
theorem ge_sl {lo hi : Option Expr} {wl wh : WO} {pos p2 : Pos} (he : GE X G e w) (hl : GO X G lo wl) (hu : GO X G hi wh) (hK : X.K = G.K := by rfl) : GE X G (.Subscript e (.Slice lo hi none p2) pos) (wSl w wl wh) := by
  refine ⟨pe_imp (pe_slice (slx hK) he.pe hl.po hu.po) fun σ H Q ⟨T, env, F, r, q⟩ => ⟨T, env, F, r, he.mono _ _ _ (fun s e ⟨d, hs, q⟩ x T1 H1 F1 f1 a1 z1 => ?_) q⟩, fun env Q Q' i q => he.mono _ _ _ (fun s e ⟨d, hs, q⟩ => ⟨d, hs, hl.mono _ _ _ (fun l e2 q => hu.mono _ _ _ (fun u e3 q => dSl_mono (fun d q => i _ _ q) q) q) q⟩) q⟩
  subst hs
  refine ⟨T1, e, F1, a1.re, hl.mono _ _ _ (fun l e2 q T2 H2 F2 a2 => ⟨T2, e2, F2, a2.re, hu.mono _ _ _ (fun u e3 q T3 H3 F3 a3 => ?_) q⟩) q⟩
  refine ⟨T3, d, a3.re.trk, Cz.of (Fz.att a2.re a3 (Fz.att a1.re a2 z1.rel.1)), dSl_mono (fun d q v H4 e4 f4 => ?_) q⟩
  exact q v T3 H4 F3 [] (((a1.trans r.trk a2).trans r.trk a3).trans r.trk (Att.ex a3.re e4)) (res_f f4)
/-! ### all(..) over the signs of a text, over the items of a tuple -/
def nmB (lo hi : Str) (a : Str) : Bool := (List.range a.cps.size).all (GxR.trF (btw lo hi) a.cps.toList)
def wAllSg (lo hi : Str) (w : WE) : WE := fun env Q => w env fun r e => ∃ a, r = .f (.str a) ∧ Q (.f (.bl (nmB lo hi a))) e
theorem ge_allSg {P : Addr} {scope : Scope} {x : Str} {lo hi : Str} {j1 j2 : Nat} {p1 p2 p3 p4 : Pos} (h : PE X e (tAllG X P scope x (.Compare (.Constant (.str lo) j1 p1) [.LtE, .LtE] [.Name x p2, .Constant (.str hi) j2 p3] p4) (tW G w))) (hm : MonoE w) (hP : P ∈ G.tabs)
    (hk : scope.kind = .function) (hl : scope.names.lookup x = some .local) (hd : (x == ("__debug__" : Str)) = false := by decide) : GE X G e (wAllSg lo hi w) := by
  refine ⟨pe_imp h fun σ H Q ⟨T, env, F, r, q⟩ => ⟨T, env, F, r, hm _ _ _ (fun s e ⟨a, hs, q⟩ v T1 H1 F1 f1 a1 z1 => ?_) q⟩, fun env Q Q' i q => hm _ _ _ (fun s e ⟨a, hs, q⟩ => ⟨a, hs, i _ _ q⟩) q⟩
  subst hs
  have zr := z1.rel.1
  cases zr
  have hT := (a1.re.tab P hP).1
  exact ⟨hT, _, _, ok_signs hk hl hT hd, q _ T1 H1 F1 [] a1 (res_f (.bl _))⟩
def isStr : D → Bool
  | .str _ => true
  | _ => false
def wAllStr (w : WE) : WE := fun env Q => w env fun r e => ∃ ds, r = .f (.tup ds) ∧ (∀ d ∈ ds, ∀ m, d ≠ .ty m) ∧ Q (.f (.bl (ds.all isStr))) e
theorem isi_str {d : D} (n : ∀ m, d ≠ .ty m) : kitB (tyN d) "str" = some (isStr d) := by
  cases d with
  | ty m => exact absurd rfl (n m)
  | _ => first | rfl | (show kitB _ _ = some _; simp only [tyN, isStr]; decide +kernel)
theorem elt_isiD {scope : Scope} {x : Str} {P : Addr} {pins : List (Addr × Obj)} {σ : L2.St} {H : Hp} {s1 : Shared} {vs : List V} {ds : List D} {its : List Value} {p1 p2 p3 p4 : Pos} (I : Inv X pins σ H s1) (hP : H P = some (TabO P)) (hk : scope.kind = .function) (hl : scope.names.lookup x = some .local) (hd : (x == ("__debug__" : Str)) = false)
    (g1 : scope.names.lookup ("isinstance" : Str) = some .globalImplicit) (m1 : X.mg "isinstance" = none) (g2 : scope.names.lookup ("str" : Str) = some .globalImplicit) (m2 : X.mg "str" = none) (fz : FzL X.K H vs ds) (nt : ∀ d ∈ ds, ∀ m, d ≠ .ty m) (rv : Vals vs its) :
    EltOk X scope x (.Call (.Name "isinstance" p1) [.Name x p2, .Name "str" p3] [] p4) P s1 (fun i v => its.toArray[i]? = some v) (fun i => (ds[i]?.map isStr).getD false) := by
  intro cenv A' E' i v s₂ m₂ GE hA hD hU hv hn hm kp
  have kb := ge_kb I hP kp
  have hv2 : its[i]? = some v := by simpa using hv
  have hi : i < its.length := (List.getElem?_eq_some_iff.mp hv2).1
  have hl1 := rv.length
  have hl2 := fz.length
  have hvi : i < vs.length := by omega
  have hdi : i < ds.length := by omega
  obtain ⟨u, hu, ru⟩ := rv.get (List.getElem?_eq_getElem hvi)
  rw [hv2] at hu
  cases hu
  have fd := fz.get (List.getElem?_eq_getElem hvi) (List.getElem?_eq_getElem hdi)
  have n := nt _ (List.getElem_mem hdi)
  obtain ⟨K1, Z, p, pk, hx⟩ := kitD I fd ru n
  obtain ⟨ps, hps⟩ := tab_at I hP
  have p' := pk P s₂.heap ⟨_, hps, rfl⟩ kp
  refine wpAny_Call_Name_kw (ge_blt I kb GE hk g1 m1 (u := .builtin "isinstance") (by first | decide +kernel | kernel_rfl) (by decide) (by decide) ?_)
  refine PyProof.Rows.callWith_builtin1 ?_ (by rfl) (by rfl)
  show wpAny _ _ (spliced [(false, eval (.Name x p2) cenv), (false, eval (.Name "str" p3) cenv)]) _ _ s₂
  refine Calls.spliced_cons (ge_own GE hk hl hn hm hd (Calls.spliced_cons (ge_blt I kb GE hk g2 m2 (u := .type "str") (by first | decide +kernel | kernel_rfl) (by decide) (by decide) (Calls.spliced_nil ?_))))
  refine PySem.W.kia_one Z (I.ok.mod.kin.keeps kb) p' (kit_ty (isi_str n)) hx fun tk => ⟨?_, GxR.keeps_tok _ _⟩
  simp only [List.getElem?_eq_getElem hdi]
  rfl
theorem ge_allStr {P : Addr} {scope : Scope} {x : Str} {p1 p2 p3 p4 : Pos} (h : PE X e (tAllG X P scope x (.Call (.Name "isinstance" p1) [.Name x p2, .Name "str" p3] [] p4) (tW G w))) (hm : MonoE w) (hP : P ∈ G.tabs)
    (hk : scope.kind = .function) (hl : scope.names.lookup x = some .local) (g1 : scope.names.lookup ("isinstance" : Str) = some .globalImplicit) (m1 : X.mg "isinstance" = none) (g2 : scope.names.lookup ("str" : Str) = some .globalImplicit) (m2 : X.mg "str" = none) (hK : X.K = G.K := by rfl)
    (hd : (x == ("__debug__" : Str)) = false := by decide) : GE X G e (wAllStr w) := by
  refine ⟨pe_imp h fun σ H Q ⟨T, env, F, r, q⟩ => ⟨T, env, F, r, hm _ _ _ (fun s e ⟨ds, hs, nt, q⟩ v T1 H1 F1 f1 a1 z1 => ?_) q⟩, fun env Q Q' i q => hm _ _ _ (fun s e ⟨ds, hs, nt, q⟩ => ⟨ds, hs, nt, i _ _ q⟩) q⟩
  subst hs
  have hT := (a1.re.tab P hP).1
  have fz := z1.rel.1
  cases fz with
  | tup l f =>
    have k := ex_t (K := G.K) hid_ex l
    refine ⟨hT, ds.length, _, fun pins s u I ru => ?_, (by rw [all_ix]; exact q _ T1 H1 F1 [] a1 (res_f (.bl _)))⟩
    obtain rfl : u = Value.ref _ := ru
    rw [← hK] at k
    obtain ⟨its, rv, ⟨o, h1, h2, n, h3⟩, _⟩ := I.tuple k
    refine ⟨fun i v => its.toArray[i]? = some v, ?_, elt_isiD I hT hk hl hd g1 m1 g2 m2 (by rw [hK]; exact f.ex hid_ex) nt rv⟩
    have hlen : its.toArray.size = ds.length := by rw [List.size_toArray, ← rv.length, f.length]
    rw [← hlen]
    exact it_tup (tab_lt I hT) ⟨o, h1, h2, n, h3⟩ (tup_ne I hT k)
end
end Fx

namespace Fx
open PySem PySem.Spec PyProof.Rows L2 Evl Lk

/-! ### not in -/
theorem op_ninT {X : Cx} (hu : X.A.units + 65 < cLine) : OpR X (compareOp .NotIn) (fun x y H Q => ∃ d ds, Dp X.K H x d ∧ Dp X.K H y (.tuple ds) ∧ SeqAt.shaped d = true ∧ SeqAt.shaped (.tuple ds) = true ∧ Q (.bl (!ds.any fun z => PyData.eqv z d)) H) := by
  intro pins s σ H x y v u Q I rx ry h
  obtain ⟨d, ds, hd, he, sd, se, q⟩ := h
  obtain ⟨as, r1⟩ := Dp.reads I d x v hd rx
  obtain ⟨bs, r2⟩ := Dp.reads I (.tuple ds) y u he ry
  exact SeqAt.notIn_tuple_reads r2 r1 (SeqAt.canLay_of_shaped se) (SeqAt.canLay_of_shaped sd) (room_in_shaped sd hu) ⟨.bl _, H, I, rfl, q⟩
section
variable {X : Cx} {G : Gx}
theorem opx_nin (hu : X.A.units + 65 < cLine) (hK : X.K = G.K := by rfl) : OpX X G (compareOp .NotIn) (dIn true) := by
  refine ⟨fun pins s σ H x y v u Q I rx ry ⟨T, d1, d2, t, c1, c2, q⟩ => ?_, dIn_mono true⟩
  cases d2 with
  | lst ds =>
    obtain ⟨q1, q2, q⟩ := q
    exact op_notInD hu pins s σ H x y v u Q I rx ry ⟨_, _, hK ▸ dp_ok c1.fz q1, (hK ▸ dp_ok c2.fz q2 : Dp X.K H y (D.lst ds).py), q1, q2, q _ H (Ex.refl H) (.bl _)⟩
  | tup ds =>
    obtain ⟨q1, q2, q⟩ := q
    exact op_ninT hu pins s σ H x y v u Q I rx ry ⟨_, _, hK ▸ dp_ok c1.fz q1, (hK ▸ dp_ok c2.fz q2 : Dp X.K H y (D.tup ds).py), q1, q2, q _ H (Ex.refl H) (.bl _)⟩
  | str z =>
    cases d1 with
    | str x1 =>
      obtain ⟨c, e, q⟩ := q
      subst e
      cases c1
      cases c2
      exact op_notIn_sign pins s σ H _ _ v u Q I rx ry ⟨c, z, rfl, rfl, q _ H (Ex.refl H) (.bl _)⟩
    | _ => exact (show False from q).elim
  | _ => cases d1 <;> exact (show False from q).elim

/-! ### a call by keywords -/
variable {e : Expr} {w w1 w2 : WE} {wr wa : WA} {es : List Expr}
/-! ### {} -/
/-! ### all, any of a list of truths -/
def cAll : OpC
  | [.lst ds], Q => ∃ bs : List Bool, ds = bs.map D.bl ∧ Q (.bl (bs.all id))
  | _, _ => False
def cAny : OpC
  | [.lst ds], Q => ∃ bs : List Bool, ds = bs.map D.bl ∧ Q (.bl (bs.any id))
  | _, _ => False
theorem fz_bls {K : PySem.W.Frag} {H : Hp} : ∀ {ys : List Bool} {vs : List V}, FzL K H vs (ys.map D.bl) → vs = ys.map V.bl
  | [], _, h => by cases h; rfl
  | y :: ys, _, h => by
    cases h with
    | cons a b =>
      cases a
      rw [fz_bls b] <;> rfl
theorem cax_all (hc : X.calm = true) (hK : X.K = G.K := by rfl) : CaX X G (.builtin "all") cAll := by
  refine ⟨fun pins s σ H xs us Q I rv ⟨T, ds, t, c, q⟩ => ?_, fun a Q Q' i q => ?_⟩
  · unfold cAll at q
    split at q
    · obtain ⟨bs, rfl, q⟩ := q
      obtain ⟨v, rfl, cv⟩ := cz1 c
      obtain ⟨a, vs, rfl, l, f⟩ := cv
      rw [fz_bls f] at l
      exact cr_all hc pins s σ H _ us Q I rv ⟨a, bs, rfl, by rw [hK]; exact l, q _ H (Ex.refl H) (.bl _)⟩
    · exact q.elim
  · unfold cAll at q ⊢
    split at q
    · obtain ⟨bs, rfl, q⟩ := q
      exact ⟨bs, rfl, i _ q⟩
    · exact q.elim
theorem cax_any (hc : X.calm = true) (hK : X.K = G.K := by rfl) : CaX X G (.builtin "any") cAny := by
  refine ⟨fun pins s σ H xs us Q I rv ⟨T, ds, t, c, q⟩ => ?_, fun a Q Q' i q => ?_⟩
  · unfold cAny at q
    split at q
    · obtain ⟨bs, rfl, q⟩ := q
      obtain ⟨v, rfl, cv⟩ := cz1 c
      obtain ⟨a, vs, rfl, l, f⟩ := cv
      rw [fz_bls f] at l
      exact cr_any hc pins s σ H _ us Q I rv ⟨a, bs, rfl, by rw [hK]; exact l, q _ H (Ex.refl H) (.bl _)⟩
    · exact q.elim
  · unfold cAny at q ⊢
    split at q
    · obtain ⟨bs, rfl, q⟩ := q
      exact ⟨bs, rfl, i _ q⟩
    · exact q.elim

/-! ### methods of a list that change nothing -/
abbrev FM := List D → List D → (D → Prop) → Prop
def MonoFM (m : FM) : Prop := ∀ as ds (Q Q' : D → Prop), (∀ a, Q a → Q' a) → m as ds Q → m as ds Q'
def rFM (G : Gx) (m : FM) : V → List V → Hp → VK → Prop := fun x ws H Q => ∃ T ds as, Trk T H ∧ Cz G.K T H x (.lst ds) ∧ CzL G.K T H ws as ∧ m as ds fun d => ∀ v H', Ex H H' → Fz G.K (hid T H') v d → Q v H'
def wFM (m : FM) (w : WE) (wa : WA) : WE := fun env Q => w env fun r e => ∃ ds, r = .f (.lst ds) ∧ wa e fun ags e2 => ∃ ss as, resA ags e2 = some ss ∧ cdL ss = some as ∧ m as ds fun d => Q (.f d) e2
theorem ge_fm {m : FM} {e : Expr} (h : PE X e (tBM X.K "list" (rFM G m) (tW G w) (tWA G wa))) (hm : MonoFM m) (hw : MonoE w) (ha : MonoA wa) (hK : X.K = G.K := by rfl) : GE X G e (wFM m w wa) := by
  refine ⟨pe_imp h fun σ H Q ⟨T, env, F, r, q⟩ => ⟨T, env, F, r, hw _ _ _ (fun s e ⟨ds, hs, q⟩ x T1 H1 F1 f1 a1 z1 => ?_) q⟩, fun env Q Q' i q => hw _ _ _ (fun s e ⟨ds, hs, q⟩ => ⟨ds, hs, ha _ _ _ (fun ags e2 ⟨ss, as, h1, h2, q⟩ => ⟨ss, as, h1, h2, hm _ _ _ _ (fun d q => i _ _ q) q⟩) q⟩) q⟩
  subst hs
  obtain ⟨a, vs, rfl, l, f⟩ := Cz.of z1.rel.1
  refine ⟨.inl ⟨rfl, vs, by rw [hK]; exact l⟩, T1, e, F1, a1.re, ha _ _ _ (fun ags e2 ⟨ss, as, h1, h2, q⟩ ws T2 H2 F2 Fa a2 z2 => ?_) q⟩
  refine ⟨T2, ds, as, a2.re.trk, Cz.of (Fz.att a1.re a2 z1.rel.1), args_cz a2.re z2 h1 h2, hm _ _ _ _ (fun d q v H3 e3 f3 => ?_) q⟩
  exact q v T2 H3 F2 [] (((a1.trans r.trk a2).trans r.trk (Att.ex a2.re e3))) (res_f f3)
/-- the first place of an equal one -/
def fIndex : FM := fun as ds Q => ∃ d j z, as = [d] ∧ okPy d = true ∧ okPy (.lst ds) = true ∧ ds[j]? = some z ∧ PyData.eqv z.py d.py = true ∧ (∀ m z', m < j → ds[m]? = some z' → PyData.eqv z'.py d.py = false) ∧ Q (.int (j : Nat))
theorem mono_index : MonoFM fIndex := fun as ds Q Q' i ⟨d, j, z, h1, h2, h3, h4, h5, h6, q⟩ => ⟨d, j, z, h1, h2, h3, h4, h5, h6, i _ q⟩
theorem pyL_get : ∀ (ds : List D) (j : Nat), (D.pyL ds)[j]? = (ds[j]?).map D.py
  | [], _ => rfl
  | _ :: _, 0 => rfl
  | _ :: ds, j + 1 => by
    show (D.pyL ds)[j]? = _
    rw [pyL_get ds j] <;> rfl
theorem mtx_index (hu : X.A.units + 65 < cLine) (hK : X.K = G.K := by rfl) : MtR X "list.index" (rFM G fIndex) := by
  refine mt_imp (mt_indexD hu) fun x ws H Q ⟨T, ds, as, t, c, cl, d, j, z, h1, h2, h3, h4, h5, h6, q⟩ => ?_
  subst h1
  obtain ⟨v, rfl, cv⟩ := cz1 cl
  have cx := c
  obtain ⟨a, vs, rfl, l, f⟩ := c
  refine ⟨a, v, d.py, D.pyL ds, j, z.py, rfl, rfl, (hK ▸ dp_ok cx.fz h3 : Dp X.K H (.ref a) (D.lst ds).py), hK ▸ dp_ok cv.fz h2, h3, h2, by rw [pyL_get, h4]; rfl, h5, fun m z' hm hz => ?_, q _ H (Ex.refl H) (.int _)⟩
  rw [pyL_get] at hz
  cases e : ds[m]? with
  | none => rw [e] at hz; cases hz
  | some y => rw [e] at hz; cases hz; exact h6 m y hm e

/-! ### str -/
end
/-! ### [::-1] -/
section
variable {prog : Program} {wo : World} {A : Around} {E : Value → Shared → Prop} {s : Shared}
end
section
variable {X : Cx} {G : Gx} {e : Expr} {w : WE}
end
end Fx

namespace Fx
open PySem PySem.Spec PyProof.Rows L2 Evl Lk

/-! ### values as arguments -/
abbrev WAD := Env → (List D → Env → Prop) → Prop
def MonoAD (w : WAD) : Prop := ∀ env (Q Q' : List D → Env → Prop), (∀ r e, Q r e → Q' r e) → w env Q → w env Q'
def adNil : WAD := fun env Q => Q [] env
def adCons (w : WE) (wr : WAD) : WAD := fun env Q => w env fun r e => ∃ d, r = .f d ∧ wr e fun ds e2 => Q (d :: ds) e2
def agD (d : D) : Ag := .v (.f d)
def waD (wd : WAD) : WA := fun env Q => wd env fun ds e => Q (ds.map agD) e
theorem argsD_map : ∀ ds : List D, argsD (ds.map agD) = some ds
  | [] => rfl
  | d :: ds => by
    show (argsD (ds.map agD)).map (d :: ·) = _
    rw [argsD_map ds] <;> rfl
theorem resA_map (e : Env) : ∀ ds : List D, resA (ds.map agD) e = some (ds.map Sl.f)
  | [] => rfl
  | d :: ds => by
    show (resA (ds.map agD) e).map (Sl.f d :: ·) = _
    rw [resA_map e ds] <;> rfl
theorem agOk_map : ∀ ds : List D, agOk (ds.map agD) = true
  | [] => rfl
  | d :: ds => agOk_map ds
theorem idx_map (i : Nat) : ∀ ds : List D, idxOwn (ds.map agD) i = none
  | [] => rfl
  | d :: ds => by
    show (idxOwn (ds.map agD) i).map (· + 1) = none
    rw [idx_map i ds] <;> rfl
theorem wbGo_map (ds : List D) (as' : List Sl) : ∀ (i : Nat) (e : Env), wbGo (ds.map agD) as' i e = e
  | _, [] => rfl
  | i, s :: e => by
    rw [wbGo, idx_map, wbGo_map ds as' (i + 1) e]
theorem cdL_map : ∀ ds : List D, cdL (ds.map Sl.f) = some ds
  | [] => rfl
  | d :: ds => by
    rw [List.map_cons, cdL, cdL_map ds] <;> rfl
theorem any_map (i : Nat) : ∀ ds : List D, (ds.map agD).any (slotIs i) = false
  | [] => rfl
  | d :: ds => any_map i ds
structure GD (X : Cx) (G : Gx) (es : List Expr) (wd : WAD) : Prop where
  ga : GA X G es (waD wd)
  mono : MonoAD wd
section
variable {X : Cx} {G : Gx} {e : Expr} {es : List Expr} {w w' : WE} {wa wa' : WA} {wd wr : WAD}
theorem ge_imp (h : GE X G e w) (i : ∀ env Q, w' env Q → w env Q) (m : MonoE w') : GE X G e w' := ⟨pe_imp h.pe fun σ H Q ⟨T, env, F, r, q⟩ => ⟨T, env, F, r, i _ _ q⟩, m⟩
theorem ga_imp (h : GA X G es wa) (i : ∀ env Q, wa' env Q → wa env Q) (m : MonoA wa') : GA X G es wa' := ⟨pa_imp h.pa fun σ H Q ⟨T, env, F, r, q⟩ => ⟨T, env, F, r, i _ _ q⟩, m⟩
theorem mono_waD (m : MonoAD wd) : MonoA (waD wd) := fun env Q Q' i q => m _ _ _ (fun ds e q => i _ _ q) q
theorem mono_adNil : MonoAD adNil := fun env Q Q' i q => i _ _ q
theorem mono_adCons (m : MonoE w) (n : MonoAD wr) : MonoAD (adCons w wr) := fun env Q Q' i q => m _ _ _ (fun r e ⟨d, hd, q⟩ => ⟨d, hd, n _ _ _ (fun ds e q => i _ _ q) q⟩) q
theorem ad_cons (m : MonoE w) {env : Env} {Q : List Ag → Env → Prop} (q : waD (adCons w wr) env Q) : waCons w (waD wr) env Q := m _ _ _ (fun r e ⟨d, hd, q⟩ => by
  subst hd
  exact ⟨nofun, q⟩) q
theorem gd_nil : GD X G [] adNil := ⟨ga_imp ga_nil (fun _ _ q => q) (mono_waD mono_adNil), mono_adNil⟩
theorem gd_cons (ha : GE X G e w) (hr : GD X G es wr) (hs : starEach (e :: es) X.env = (false, eval e X.env) :: starEach es X.env := by rfl) : GD X G (e :: es) (adCons w wr) :=
  ⟨ga_imp (ga_cons ha hr.ga hs) (fun _ _ q => ad_cons ha.mono q) (mono_waD (mono_adCons ha.mono hr.mono)), mono_adCons ha.mono hr.mono⟩
/-! displays -/
def wTupD (wd : WAD) : WE := fun env Q => wd env fun ds e => ds.length ≤ sizeLine ∧ Q (.f (.tup ds)) e
def wLstD (wd : WAD) : WE := fun env Q => wd env fun ds e => ds.length ≤ sizeLine ∧ Q (.f (.lst ds)) e
def wLstOD (wd : WAD) : WE := fun env Q => wd env fun ds e => ds.length ≤ sizeLine ∧ Q (.own (.lst ds)) e
theorem ge_tupD {k : Nat} {pos : Pos} (h : GD X G es wd) : GE X G (.Tuple es k pos) (wTupD wd) :=
  ge_imp (ge_tup h.ga) (fun env Q q => h.mono _ _ _ (fun ds e ⟨z, q⟩ => ⟨ds, argsD_map ds, z, q⟩) q) fun env Q Q' i q => h.mono _ _ _ (fun ds e ⟨z, q⟩ => ⟨z, i _ _ q⟩) q
theorem ge_lstD {pos : Pos} (h : GD X G es wd) : GE X G (.List es pos) (wLstD wd) :=
  ge_imp (ge_lst h.ga) (fun env Q q => h.mono _ _ _ (fun ds e ⟨z, q⟩ => ⟨ds, argsD_map ds, z, q⟩) q) fun env Q Q' i q => h.mono _ _ _ (fun ds e ⟨z, q⟩ => ⟨z, i _ _ q⟩) q
theorem ge_lstOD {pos : Pos} (h : GD X G es wd) : GE X G (.List es pos) (wLstOD wd) :=
  ge_imp (ge_lstO h.ga) (fun env Q q => h.mono _ _ _ (fun ds e ⟨z, q⟩ => ⟨ds, argsD_map ds, z, q⟩) q) fun env Q Q' i q => h.mono _ _ _ (fun ds e ⟨z, q⟩ => ⟨z, i _ _ q⟩) q
/-! built-ins -/
def wCBD (o : OpC) (wd : WAD) : WE := fun env Q => wd env fun ds e => o ds fun d => Q (.f d) e
theorem mono_cbd {o : OpC} (m : MonoAD wd) (mo : MonoC o) : MonoE (wCBD o wd) := fun env Q Q' i q => m _ _ _ (fun ds e q => mo _ _ _ (fun d q => i _ _ q) q) q
theorem cbd_cb {o : OpC} (m : MonoAD wd) {env : Env} {Q : Sl → Env → Prop} (q : wCBD o wd env Q) : wCB o (waD wd) env Q := m _ _ _ (fun ds e q => ⟨_, ds, resA_map e ds, cdL_map ds, q⟩) q
theorem ge_cbB {o : OpC} {id : String} {x : Str} {p pos : Pos} (c : CaX X G (.builtin id) o) (hg : Gl X x) (hm : X.mg x = none) (hv : bootBuiltins x = some (.builtin id)) (ha : GD X G (e :: es) wd) (hn : x ≠ "__name__" := by decide) (hdb : (x == ("__debug__" : Str)) = false := by decide)
    (he : starEach (e :: es) X.env = (false, eval e X.env) :: starEach es X.env := by rfl) (hpl : (backTo pos (starEach es X.env)).any (·.1) = false := by rfl) : GE X G (.Call (.Name x p) (e :: es) [] pos) (wCBD o wd) :=
  ge_imp (ge_cb (pe_callB c.ok hg hm hv ha.ga.pa hn hdb he hpl) ha.ga.mono c.mono) (fun _ _ q => cbd_cb ha.mono q) (mono_cbd ha.mono c.mono)
theorem ge_cbT {o : OpC} {id : String} {x : Str} {p pos : Pos} (c : CaX X G (.type id) o) (hg : Gl X x) (hm : X.mg x = none) (hv : bootBuiltins x = some (.type id)) (ha : GD X G (e :: es) wd) (hn : x ≠ "__name__" := by decide) (hdb : (x == ("__debug__" : Str)) = false := by decide)
    (he : starEach (e :: es) X.env = (false, eval e X.env) :: starEach es X.env := by rfl) (hpl : (backTo pos (starEach es X.env)).any (·.1) = false := by rfl) : GE X G (.Call (.Name x p) (e :: es) [] pos) (wCBD o wd) :=
  ge_imp (ge_cb (pe_callTy c.ok hg hm hv ha.ga.pa hn hdb he hpl) ha.ga.mono c.mono) (fun _ _ q => cbd_cb ha.mono q) (mono_cbd ha.mono c.mono)
/-- f(x), x a name whatever it holds -/
def wCB1 (o : OpC) (i : Nat) : WE := fun env Q => ∃ s d, env[i]? = some (some s) ∧ s.cd = some d ∧ o [d] fun d => Q (.f d) env
theorem mono_cb1 {o : OpC} {i : Nat} (mo : MonoC o) : MonoE (wCB1 o i) := fun env Q Q' j ⟨s, d, h1, h2, q⟩ => ⟨s, d, h1, h2, mo _ _ _ (fun d q => j _ _ q) q⟩
theorem cb1_cb {o : OpC} {i : Nat} {env : Env} {Q : Sl → Env → Prop} (q : wCB1 o i env Q) : wCB o (waSlot i false waNil) env Q := by
  obtain ⟨s, d, h1, h2, q⟩ := q
  refine ⟨⟨s, h1⟩, ?_⟩
  cases s with
  | f d' => exact ⟨[.f d'], [d], by simp only [resA, h1]; rfl, by simp only [cdL, h2], q⟩
  | own o' => exact ⟨[.vw o'], [d], by simp only [resA, h1]; rfl, by simp only [cdL]; rw [show (Sl.vw o').cd = some d from h2], q⟩
  | vw o' => exact ⟨[.vw o'], [d], by simp only [resA, h1]; rfl, by simp only [cdL, h2], q⟩
theorem ge_cbB1 {o : OpC} {id : String} {x : Str} {i : Nat} {p pos : Pos} (c : CaX X G (.builtin id) o) (hg : Gl X x) (hm : X.mg x = none) (hv : bootBuiltins x = some (.builtin id)) (ha : PE X e (tVar i)) (hn : x ≠ "__name__" := by decide) (hdb : (x == ("__debug__" : Str)) = false := by decide)
    (he : starEach [e] X.env = (false, eval e X.env) :: starEach [] X.env := by rfl) (hpl : (backTo pos (starEach [] X.env)).any (·.1) = false := by rfl) : GE X G (.Call (.Name x p) [e] [] pos) (wCB1 o i) :=
  ge_imp (ge_cb (pe_callB c.ok hg hm hv (ga_slot ha ga_nil he).pa hn hdb he hpl) (ga_slot (G := G) ha ga_nil he).mono c.mono) (fun _ _ q => cb1_cb q) (mono_cb1 c.mono)
theorem ge_cbT1 {o : OpC} {id : String} {x : Str} {i : Nat} {p pos : Pos} (c : CaX X G (.type id) o) (hg : Gl X x) (hm : X.mg x = none) (hv : bootBuiltins x = some (.type id)) (ha : PE X e (tVar i)) (hn : x ≠ "__name__" := by decide) (hdb : (x == ("__debug__" : Str)) = false := by decide)
    (he : starEach [e] X.env = (false, eval e X.env) :: starEach [] X.env := by rfl) (hpl : (backTo pos (starEach [] X.env)).any (·.1) = false := by rfl) : GE X G (.Call (.Name x p) [e] [] pos) (wCB1 o i) :=
  ge_imp (ge_cb (pe_callTy c.ok hg hm hv (ga_slot ha ga_nil he).pa hn hdb he hpl) (ga_slot (G := G) ha ga_nil he).mono c.mono) (fun _ _ q => cb1_cb q) (mono_cb1 c.mono)
/-- a method of a list value -/
def wFMD (m : FM) (w : WE) (wd : WAD) : WE := fun env Q => w env fun r e => ∃ ds, r = .f (.lst ds) ∧ wd e fun as e2 => m as ds fun d => Q (.f d) e2
theorem ge_fmD {m : FM} {e : Expr} (h : PE X e (tBM X.K "list" (rFM G m) (tW G w) (tWA G (waD wd)))) (hm : MonoFM m) (hw : MonoE w) (ha : MonoAD wd) (hK : X.K = G.K := by rfl) : GE X G e (wFMD m w wd) :=
  ge_imp (ge_fm h hm hw (mono_waD ha) hK) (fun env Q q => hw _ _ _ (fun r e ⟨ds, hs, q⟩ => ⟨ds, hs, ha _ _ _ (fun as e2 q => ⟨_, as, resA_map e2 as, cdL_map as, q⟩) q⟩) q)
    fun env Q Q' i q => hw _ _ _ (fun r e ⟨ds, hs, q⟩ => ⟨ds, hs, ha _ _ _ (fun as e2 q => hm _ _ _ _ (fun d q => i _ _ q) q) q⟩) q
theorem ge_index {o : Expr} {apos pos : Pos} (hu : X.A.units + 65 < cLine) (ho : GE X G o w) (ha : GD X G [e] wd) (hK : X.K = G.K := by rfl) (hbase : attributeBase o "index" X.env (eval o X.env) = eval o X.env := by rfl)
    (hfew : ((backTo pos (starEach [e] X.env)).all (fun x => !x.1) && (backToKw pos (keywordEach [] X.env)).all (fun x => x.1.isSome) && decide (([e] : List Expr).length + ([] : List Keyword).length + (if ([] : List Keyword).isEmpty then 0 else 1) < 30)) = true := by rfl)
    (hline : (apos.endLine == pos.line) = true := by rfl) (hs : starEach [e] X.env = (false, eval e X.env) :: starEach [] X.env := by rfl) (hpl : (backTo pos (starEach [] X.env)).any (·.1) = false := by rfl) : GE X G (.Call (.Attribute o "index" apos) [e] [] pos) (wFMD fIndex w wd) :=
  ge_fmD (pe_bm PySem.F.plainAttrs_list PySem.F.slot_list_index PySem.F.type_list_index (mtx_index hu hK) ho.pe ha.ga.pa hbase hfew hline hs hpl) mono_index ho.mono ha.mono hK
/-! calls of defs -/
abbrev WFn := List D → (Sl → Prop) → Prop
abbrev WUn := O → List D → (Sl → O → Prop) → Prop
def liftF (W : WFn) : WD := fun as Q => ∃ ds, as = ds.map Sl.f ∧ W ds fun r => Q r (ds.map Sl.f)
def liftU (W : WUn) : WD := fun as Q => ∃ o ds, as = .own o :: ds.map Sl.f ∧ W o ds fun r o' => Q r (.own o' :: ds.map Sl.f)
def MonoF (W : WFn) : Prop := ∀ ds (Q Q' : Sl → Prop), (∀ d, Q d → Q' d) → W ds Q → W ds Q'
def MonoU2 (W : WUn) : Prop := ∀ o ds (Q Q' : Sl → O → Prop), (∀ r o, Q r o → Q' r o) → W o ds Q → W o ds Q'
theorem mono_liftF {W : WFn} (m : MonoF W) : MonoD (liftF W) := fun as Q Q' i ⟨ds, h, q⟩ => ⟨ds, h, m _ _ _ (fun d q => i _ _ q) q⟩
theorem mono_liftU {W : WUn} (m : MonoU2 W) : MonoD (liftU W) := fun as Q Q' i ⟨o, ds, h, q⟩ => ⟨o, ds, h, m _ _ _ _ (fun r o q => i _ _ q) q⟩
def wCallF (W : WFn) (wd : WAD) : WE := fun env Q => wd env fun ds e => W ds fun r => Q r e
def wCallU (i : Nat) (W : WUn) (wd : WAD) : WE := fun env Q => (∃ s, env[i]? = some (some s)) ∧ wd env fun ds e => ∃ o, e[i]? = some (some (.own o)) ∧ W o ds fun r o' => Q r (e.set i (some (.own o')))
theorem callF_call {W : WFn} (m : MonoF W) (n : MonoAD wd) {env : Env} {Q : Sl → Env → Prop} (q : wCallF W wd env Q) : wCall (liftF W) (waD wd) env Q :=
  n _ _ _ (fun ds e q => ⟨_, resA_map e ds, agOk_map ds, ds, rfl, m _ _ _ (fun d q => ⟨rfl, by rw [wbGo_map]; exact q⟩) q⟩) q
theorem mono_callF {W : WFn} (m : MonoF W) (n : MonoAD wd) : MonoE (wCallF W wd) := fun env Q Q' i q => n _ _ _ (fun ds e q => m _ _ _ (fun d q => i _ _ q) q) q
theorem mono_callU {i : Nat} {W : WUn} (m : MonoU2 W) (n : MonoAD wd) : MonoE (wCallU i W wd) := fun env Q Q' j ⟨h, q⟩ => ⟨h, n _ _ _ (fun ds e ⟨o, h, q⟩ => ⟨o, h, m _ _ _ _ (fun r o q => j _ _ q) q⟩) q⟩
theorem wb_own (ds : List D) (o' : Sl) (r : List Sl) (i : Nat) : ∀ (k : Nat) (e : Env), wbGo (.slot (k + i) true :: ds.map agD) (o' :: r) k e = e.set i (some o')
  | _, [] => by cases i <;> rfl
  | k, s :: e => by
    have idx : ∀ j, idxOwn (.slot (k + i) true :: ds.map agD) j = if k + i = j then some 0 else none := fun j => by
      show (if k + i = j then some 0 else (idxOwn (ds.map agD) j).map (· + 1)) = _
      rw [idx_map]
      rfl
    rw [wbGo, idx]
    cases i with
    | zero =>
      rw [if_pos (Nat.add_zero k)]
      show some o' :: wbGo _ _ (k + 1) e = some o' :: e
      congr 1
      have none_ : ∀ (m : Nat) (e : Env), k < m → wbGo (.slot (k + 0) true :: ds.map agD) (o' :: r) m e = e := by
        intro m e
        induction e generalizing m with
        | nil => intro _; rfl
        | cons s e ih =>
          intro hm
          rw [wbGo, idx, if_neg (by omega), ih (m + 1) (by omega)]
      exact none_ (k + 1) e (by omega)
    | succ i =>
      rw [if_neg (by omega)]
      show s :: wbGo _ _ (k + 1) e = s :: e.set i (some o')
      congr 1
      have := wb_own ds o' r i (k + 1) e
      rw [show k + 1 + i = k + (i + 1) by omega] at this
      exact this
theorem callU_call {i : Nat} {W : WUn} (m : MonoU2 W) (n : MonoAD wd) {env : Env} {Q : Sl → Env → Prop} (q : wCallU i W wd env Q) : wCall (liftU W) (waSlot i true (waD wd)) env Q := by
  obtain ⟨h, q⟩ := q
  refine ⟨h, n _ _ _ (fun ds e ⟨o, h, q⟩ => ?_) q⟩
  refine ⟨.own o :: ds.map Sl.f, by simp only [resA, h, resA_map]; rfl, ?_, o, ds, rfl, m _ _ _ _ (fun r o' q => ⟨rfl, ?_⟩) q⟩
  · show (!(ds.map agD).any (slotIs i) && agOk (ds.map agD)) = true
    rw [any_map, agOk_map]
    rfl
  · have := wb_own ds (.own o') (ds.map Sl.f) i 0 e
    rw [Nat.zero_add] at this
    rw [this]
    exact q
variable {x : Str} {k j : Nat} {tabs : List Addr} {p pos : Pos}
theorem ge_callF {W : WFn} (c : Cal X.prog X.w X.K X.mg X.base k x (spW X.K tabs (liftF W))) (hr : Room j X.A) (hk : k ≤ j) (hg : Gl X x) (hK : X.K = G.K) (ht : tabs = G.tabs) (mW : MonoF W) (ha : GD X G (e :: es) wd)
    (hdb : (x == ("__debug__" : Str)) = false := by decide) (he : starEach (e :: es) X.env = (false, eval e X.env) :: starEach es X.env := by rfl) (hpl : (backTo pos (starEach es X.env)).any (·.1) = false := by rfl) :
    GE X G (.Call (.Name x p) (e :: es) [] pos) (wCallF W wd) :=
  ge_imp (ge_call c hr hk hg hK ht (mono_liftF mW) ha.ga hdb he hpl) (fun _ _ q => callF_call mW ha.mono q) (mono_callF mW ha.mono)
theorem ge_callU {i : Nat} {W : WUn} (c : Cal X.prog X.w X.K X.mg X.base k x (spW X.K tabs (liftU W))) (hr : Room j X.A) (hk : k ≤ j) (hg : Gl X x) (hK : X.K = G.K) (ht : tabs = G.tabs) (mW : MonoU2 W) (hv : PE X e (tVar i)) (ha : GD X G es wd)
    (hdb : (x == ("__debug__" : Str)) = false := by decide) (he : starEach (e :: es) X.env = (false, eval e X.env) :: starEach es X.env := by rfl) (hpl : (backTo pos (starEach es X.env)).any (·.1) = false := by rfl) :
    GE X G (.Call (.Name x p) (e :: es) [] pos) (wCallU i W wd) :=
  ge_imp (ge_call c hr hk hg hK ht (mono_liftU mW) (ga_slot hv ha.ga he) hdb he hpl) (fun _ _ q => callU_call mW ha.mono q) (mono_callU mW ha.mono)
end

/-! ### defs -/
section
variable {P : Program} {w : World} {K : PySem.W.Frag} {mg : Str → Option Value} {base : Heap} {x : Str} {st : Stmt} {N ps : List Str} {k : Nat} {tabs : List Addr}
theorem outOk_f : ∀ (ds : List D) (env : Env), ds.length ≤ env.length → OutOk (List.replicate ds.length false) (ds.map Sl.f) env ∧ outA (List.replicate ds.length false) (ds.map Sl.f) env = ds.map Sl.f
  | [], _, _ => ⟨True.intro, by unfold outA; rfl⟩
  | d :: ds, [], h => absurd h (by simp)
  | d :: ds, e :: env, h => by
    obtain ⟨h1, h2⟩ := outOk_f ds env (by simpa using h)
    refine ⟨⟨?_, h1⟩, ?_⟩
    · rw [if_neg Bool.false_ne_true]
      exact nofun
    · show (if false = true then _ else Sl.f d) :: outA (List.replicate ds.length false) (ds.map Sl.f) env = Sl.f d :: ds.map Sl.f
      rw [h2] <;> rfl
theorem fx_fnF {W : WFn} {f : Addr} {fd : FuncData} (F : Fun K x x st f fd) (S : FnScope N ps (defScope st)) (hlen : ∀ ds Q, W ds Q → ds.length = ps.length)
    (hbody : ∀ (cdv : Value) (A : Around) (outer : List PySem.Env) (s : Shared) (H : Hp) (E : XK) (T : Addr → Prop) (P0 : Addr → Prop) (σ0 : L2.St), fd.code = cdv → Room k (A.deeper (envOfC x (defScope st) s.heap.objs.size f cdv)) →
      ∃ ws, GSs (cxOf CX0 P w K mg base N x (defScope st) f cdv A outer s H E).nox ⟨K, tabs, T, H, P0, σ0, fun i => (List.replicate ps.length false).getD i false, fun _ _ => False, fun _ => none⟩ (defBody st) ws ∧
        ∀ ds Q, W ds Q → ws ⟨fun env => ps.length ≤ env.length ∧ Q (.f .non), fun r env => ps.length ≤ env.length ∧ Q r, fun _ => False, fun _ => False⟩ (startE N (ds.map Sl.f))) : FnOk P w K mg base CX0 (k + 1) f fd ps (spW K tabs (liftF W)) := by
  refine fx_fn (List.replicate ps.length false) F S (fun as Q ⟨ds, h, q⟩ => by rw [h, List.length_map]; exact hlen _ _ q) fun cdv A outer s H E T P0 σ0 hcd hr => ?_
  obtain ⟨ws, h1, h2⟩ := hbody cdv A outer s H E T P0 σ0 hcd hr
  refine ⟨ws, h1, fun as Q ⟨ds, h, q⟩ => ?_⟩
  subst h
  have hl := hlen _ _ q
  refine h1.mono _ _ _ ?_ (h2 ds _ q)
  refine ⟨fun env ⟨l, q⟩ => ?_, fun r env ⟨l, q⟩ => ?_, fun _ h => h.elim, fun _ h => h.elim⟩
  · obtain ⟨a, b⟩ := outOk_f ds env (by rw [hl]; exact l)
    rw [hl] at a b
    exact ⟨a, by rw [b]; exact q⟩
  · obtain ⟨a, b⟩ := outOk_f ds env (by rw [hl]; exact l)
    rw [hl] at a b
    exact ⟨a, by rw [b]; exact q⟩
theorem fx_fnU {W : WUn} {f : Addr} {fd : FuncData} {p : Str} (F : Fun K x x st f fd) (S : FnScope N (p :: ps) (defScope st)) (hlen : ∀ o ds Q, W o ds Q → ds.length = ps.length)
    (hbody : ∀ (cdv : Value) (A : Around) (outer : List PySem.Env) (s : Shared) (H : Hp) (E : XK) (T : Addr → Prop) (P0 : Addr → Prop) (σ0 : L2.St), fd.code = cdv → Room k (A.deeper (envOfC x (defScope st) s.heap.objs.size f cdv)) →
      ∃ ws, GSs (cxOf CX0 P w K mg base N x (defScope st) f cdv A outer s H E).nox ⟨K, tabs, T, H, P0, σ0, fun i => (true :: List.replicate ps.length false).getD i false, fun _ _ => False, fun _ => none⟩ (defBody st) ws ∧
        ∀ o ds Q, W o ds Q → ws ⟨fun env => (p :: ps).length ≤ env.length ∧ ∃ o', env[0]? = some (some (.own o')) ∧ Q (.f .non) o', fun r env => (p :: ps).length ≤ env.length ∧ ∃ o', env[0]? = some (some (.own o')) ∧ Q r o', fun _ => False, fun _ => False⟩ (startE N (.own o :: ds.map Sl.f))) : FnOk P w K mg base CX0 (k + 1) f fd (p :: ps) (spW K tabs (liftU W)) := by
  refine fx_fn (true :: List.replicate ps.length false) F S (fun as Q ⟨o, ds, h, q⟩ => by rw [h, List.length_cons, List.length_map, hlen _ _ _ q]; rfl) fun cdv A outer s H E T P0 σ0 hcd hr => ?_
  obtain ⟨ws, h1, h2⟩ := hbody cdv A outer s H E T P0 σ0 hcd hr
  refine ⟨ws, h1, fun as Q ⟨o, ds, h, q⟩ => ?_⟩
  subst h
  have hl := hlen _ _ _ q
  have fin : ∀ (r : Sl) (env : Env), (p :: ps).length ≤ env.length → ∀ o', env[0]? = some (some (.own o')) → Q r (.own o' :: ds.map Sl.f) → OutOk (true :: List.replicate ps.length false) (.own o :: ds.map Sl.f) env ∧ Q r (outA (true :: List.replicate ps.length false) (.own o :: ds.map Sl.f) env) := by
    intro r env l o' he q
    cases env with
    | nil => exact absurd l (by simp)
    | cons e env =>
      obtain rfl : e = some (.own o') := by simpa using he
      obtain ⟨a, b⟩ := outOk_f ds env (by rw [hl]; simpa using l)
      rw [hl] at a b
      refine ⟨⟨by rw [if_pos rfl]; exact ⟨o', rfl⟩, a⟩, ?_⟩
      show Q r ((if true = true then Sl.own o' else _) :: outA (List.replicate ps.length false) (ds.map Sl.f) env)
      rw [b, if_pos rfl]
      exact q
  refine h1.mono _ _ _ ?_ (h2 o ds _ q)
  exact ⟨fun env ⟨l, o', he, q⟩ => fin _ env l o' he q, fun r env ⟨l, o', he, q⟩ => fin _ env l o' he q, fun _ h => h.elim, fun _ h => h.elim⟩
end
end Fx

namespace Fx
open PySem PySem.Spec PyProof.Rows L2 Evl Lk

/-! ### rules that take readings over trees alone -/
section
variable {X : Cx} {G : Gx} {e : Expr} {we : WE} {pos pos' : Pos} {x : Str} {i : Nat}
theorem gs_setE (hN : X.N.Nodup) (hi : X.N[i]? = some x) (hx : Loc X.env.scope x) (he : GE X G e we) (hp : G.prot i = false := by rfl) (hs : swapsWith e (some (.Name x pos')) pos.line X.env = pure false := by rfl)
    (hf : X.fn x = true ∨ X.env.scope.names.lookup x = some .local := by first | exact .inl rfl | exact .inr rfl) : GS X G (.Assign [.Name x pos'] e pos) (wSet i we) :=
  gs_set (ps_set hN hi hx he.pe hs hf) he.mono hp
theorem gp_k {d : D} (h : ∃ v u, X.mg x = some u ∧ RelV v u ∧ ∀ H, Fz G.K H v d) (hg : Gl X x) (hd : (x == ("__debug__" : Str)) = false := by decide) : GP X G (.Name x pos) (wC d) := by
  obtain ⟨v, u, h1, h2, h3⟩ := h
  exact gp_glob (pe_glob hg h1 h2 hd) h3
theorem gp_ty {n : String} (hg : Gl X x) (hm : X.mg x = none) (hv : bootBuiltins x = some (.type n)) (hn : x ≠ "__name__" := by decide) (hd : (x == ("__debug__" : Str)) = false := by decide) : GP X G (.Name x pos) (wC (.ty n)) :=
  gp_c (pe_bltn (v := .ty n) hg hm hv rfl hn hd) fun _ _ => .ty n
/-! negatives -/
def uNeg : Op1
  | .int i, Q => Q (.int (-i))
  | _, _ => False
theorem unx_neg : UnX X G (unaryOp .USub) uNeg := by
  refine ⟨fun pins s σ H x v Q I rx ⟨T, d, t, c, q⟩ => ?_, fun a Q Q' i q => ?_⟩
  · cases d with
    | int i =>
      cases c
      exact un_neg pins s σ H _ v Q I rx ⟨i, rfl, q _ H (Ex.refl H) (.int _)⟩
    | _ => exact (show False from q).elim
  · cases a <;> first | exact i _ q | exact q
/-! comprehensions -/
end
section
variable {X : Cx} {G : Gx} {elt tg iter c : Expr} {scope : Scope} {own : List (Str × Nat)} {pos spos py : Pos} {wi : WI} {t : Tgt} {w : WE} {wt : WT} {y : Str} {i : Nat}
abbrev GEB (X : Cx) (scope : Scope) (G : Gx) (elt : Expr) (w : WE) : Prop := ∀ (s : Shared) (H : Hp) (C : Addr) (cl : List (Str × Addr)) (fp : List Addr), GE (X.blk s H scope (compEnvC scope cl C X.env) fp) G elt w
abbrev GTB (X : Cx) (scope : Scope) (G : Gx) (elt : Expr) (w : WT) : Prop := ∀ (s : Shared) (H : Hp) (C : Addr) (cl : List (Str × Addr)) (fp : List Addr), GT (X.blk s H scope (compEnvC scope cl C X.env) fp) G elt w
abbrev PGB (X : Cx) (scope : Scope) (tg : Expr) (t : TG) : Prop := ∀ (s : Shared) (H : Hp) (C : Addr) (cl : List (Str × Addr)) (fp : List Addr), PG (X.blk s H scope (compEnvC scope cl C X.env) fp) tg t
theorem allB_mono {w : WE} (h : GEB X scope G elt w) : MonoE w := (h {} (fun _ => none) 0 [] []).mono
theorem allB_monoT {w : WT} (h : GTB X scope G elt w) : MonoT w := (h {} (fun _ => none) 0 [] []).mono
theorem ge_lcR (hc : X.calm = true) (hN : X.N.Nodup) (hi : GI X G tg iter wi) (ok : BlkOk X.N X.env.scope scope own) (hg : PGB X scope tg (t.tg G.K)) (he : GEB X scope G elt w)
    (hsub : ∀ j ∈ t.js, j ∈ own.map (·.2)) (hp : ∀ i ∈ own.map (·.2), G.prot i = false) (hL : ∀ i ∈ own.map (·.2), i < X.N.length) (hs : ∀ x, foldedSetIterable iter X.env x = pure x := by intro _; rfl) :
    GE X G (.ListComp elt [⟨tg, iter, [], 0⟩] scope pos) (wLc wi t (own.map (·.2)) wYes w) :=
  ge_lc (tt := tYes) (L2.pe_lc hc hN hi.pi ok hg (fun _ _ _ _ _ => pts_nil) (fun s H C cl fp => (he s H C cl fp).pe) hs) hi.mono (allB_mono he) (fun _ _ _ q => tt_yes q) mono_yes hsub hp hL
theorem ge_lcR1 (hc : X.calm = true) (hN : X.N.Nodup) (hi : GI X G tg iter wi) (ok : BlkOk X.N X.env.scope scope own) (hg : PGB X scope tg (t.tg G.K)) (ht : GTB X scope G c wt) (he : GEB X scope G elt w)
    (hsub : ∀ j ∈ t.js, j ∈ own.map (·.2)) (hp : ∀ i ∈ own.map (·.2), G.prot i = false) (hL : ∀ i ∈ own.map (·.2), i < X.N.length) (hs : ∀ x, foldedSetIterable iter X.env x = pure x := by intro _; rfl) :
    GE X G (.ListComp elt [⟨tg, iter, [c], 0⟩] scope pos) (wLc wi t (own.map (·.2)) wt w) :=
  ge_lc (L2.pe_lc hc hN hi.pi ok hg (fun s H C cl fp => pts_one (ht s H C cl fp).pt) (fun s H C cl fp => (he s H C cl fp).pe) hs) hi.mono (allB_mono he) (fun _ _ _ q => q) (allB_monoT ht) hsub hp hL
theorem gs_lcFR (hc : X.calm = true) (hN : X.N.Nodup) (hy : X.N[i]? = some y) (hyl : X.env.scope.names.lookup y = some .local) (hsw : swapsWith (.ListComp elt [⟨tg, iter, [], 0⟩] scope pos) (some (.Name y py)) spos.line X.env = pure true)
    (hi : GI X G tg iter wi) (ok : BlkOk X.N X.env.scope scope own) (hg : PGB X scope tg (t.tg G.K)) (he : GEB X scope G elt w)
    (hsub : ∀ j ∈ t.js, j ∈ own.map (·.2)) (hp : ∀ i ∈ own.map (·.2), G.prot i = false) (hL : ∀ i ∈ own.map (·.2), i < X.N.length) (hpi : G.prot i = false := by rfl) (hs : ∀ x, foldedSetIterable iter X.env x = pure x := by intro _; rfl) :
    GS X G (.Assign [.Name y py] (.ListComp elt [⟨tg, iter, [], 0⟩] scope pos) spos) (wSet i (wFrz (wLc wi t (own.map (·.2)) wYes w))) :=
  gs_setLcF (tt := tYes) (L2.ps_setLc hc hN hy hyl hsw hi.pi ok hg (fun _ _ _ _ _ => pts_nil) (fun s H C cl fp => (he s H C cl fp).pe) hs) hi.mono (allB_mono he) (fun _ _ _ q => tt_yes q) mono_yes hsub hp hL hpi
theorem gs_lcFR1 (hc : X.calm = true) (hN : X.N.Nodup) (hy : X.N[i]? = some y) (hyl : X.env.scope.names.lookup y = some .local) (hsw : swapsWith (.ListComp elt [⟨tg, iter, [c], 0⟩] scope pos) (some (.Name y py)) spos.line X.env = pure true)
    (hi : GI X G tg iter wi) (ok : BlkOk X.N X.env.scope scope own) (hg : PGB X scope tg (t.tg G.K)) (ht : GTB X scope G c wt) (he : GEB X scope G elt w)
    (hsub : ∀ j ∈ t.js, j ∈ own.map (·.2)) (hp : ∀ i ∈ own.map (·.2), G.prot i = false) (hL : ∀ i ∈ own.map (·.2), i < X.N.length) (hpi : G.prot i = false := by rfl) (hs : ∀ x, foldedSetIterable iter X.env x = pure x := by intro _; rfl) :
    GS X G (.Assign [.Name y py] (.ListComp elt [⟨tg, iter, [c], 0⟩] scope pos) spos) (wSet i (wFrz (wLc wi t (own.map (·.2)) wt w))) :=
  gs_setLcF (L2.ps_setLc hc hN hy hyl hsw hi.pi ok hg (fun s H C cl fp => pts_one (ht s H C cl fp).pt) (fun s H C cl fp => (he s H C cl fp).pe) hs) hi.mono (allB_mono he) (fun _ _ _ q => q) (allB_monoT ht) hsub hp hL hpi
end

/-! ### what is left to show, step by step -/
section
variable {env e : Env} {Q : Sl → Env → Prop} {QD : D → Prop} {QT : Bool → Env → Prop} {n b c : Env → Prop} {r : Sl → Env → Prop} {w w1 w2 w3 : WE} {v1 v2 : WP} {t u : WT} {s1 s2 : WS} {i : Nat} {o : Op2}
theorem x_seq (h : s1 ⟨fun e => s2 ⟨n, r, b, c⟩ e, r, b, c⟩ env) : wSeq s1 s2 ⟨n, r, b, c⟩ env := h
theorem x_next (h : n env) : wNext ⟨n, r, b, c⟩ env := h
theorem x_ret (h : w env fun s e => (∀ o, s ≠ .vw o) ∧ r s e) : wRet w ⟨n, r, b, c⟩ env := h
theorem x_ifS (h : t env fun k e => if k = true then s1 ⟨n, r, b, c⟩ e else s2 ⟨n, r, b, c⟩ e) : wIfS t s1 s2 ⟨n, r, b, c⟩ env := h
theorem x_set (h : w env fun s e => (∀ o, s ≠ .vw o) ∧ i < e.length ∧ n (e.set i (some s))) : wSet i w ⟨n, r, b, c⟩ env := h
theorem x_asg {g : WG} (h : w env fun s e => ∃ d, s = .f d ∧ g d e n) : wAsg w g ⟨n, r, b, c⟩ env := h
theorem x_gn {d : D} {q : Env → Prop} (h : i < env.length) (h2 : q (env.set i (some (.f d)))) : gn i d env q := ⟨h, h2⟩
theorem x_gtp {k : Nat} {ug : WGs} {ds : List D} {q : Env → Prop} (h : ds.length = k) (h2 : ug ds env q) : gTp k ug (.tup ds) env q := ⟨ds, rfl, h, h2⟩
theorem x_gnil {q : Env → Prop} (h : q env) : gsNil [] env q := ⟨rfl, h⟩
theorem x_gcons {g : WG} {ug : WGs} {d : D} {ds : List D} {q : Env → Prop} (h : g d env fun e => ug ds e q) : gsCons g ug (d :: ds) env q := ⟨d, ds, rfl, h⟩
theorem x_fin {d : D} {p : Prop} (h : p) : (∀ o, Sl.f d ≠ .vw o) ∧ p := ⟨nofun, h⟩
theorem x_fino {d : O} {p : Prop} (h : p) : (∀ o, Sl.own d ≠ .vw o) ∧ p := ⟨nofun, h⟩
theorem x_and {p q : Prop} (h : p) (h2 : q) : p ∧ q := ⟨h, h2⟩
theorem x_varF {d : D} {q : Sl → Prop} (h : env[i]? = some (some (.f d))) (h2 : q (.f d)) : wVar i env q := by unfold wVar; rw [h]; exact h2
theorem x_varO {o : O} {q : Sl → Prop} (h : env[i]? = some (some (.own o))) (h2 : q (.vw o)) : wVar i env q := by unfold wVar; rw [h]; exact h2
theorem x_c {d : D} {q : Sl → Prop} (h : q (.f d)) : wC d env q := h
theorem x_bin (h : w1 env fun r1 e1 => ∃ d1, r1 = .f d1 ∧ w2 e1 fun r2 e2 => ∃ d2, r2.cd = some d2 ∧ o d1 d2 fun d => Q (.f d) e2) : wBin o w1 w2 env Q := h
theorem x_binP {q : Sl → Prop} (h : v1 env fun r1 => ∃ d1, r1.cd = some d1 ∧ v2 env fun r2 => ∃ d2, r2.cd = some d2 ∧ o d1 d2 fun d => q (.f d)) : wBinP o v1 v2 env q := h
theorem x_exf {d : D} {p : D → Prop} (h : p d) : ∃ d1, Sl.f d = .f d1 ∧ p d1 := ⟨d, rfl, h⟩
theorem x_excd {d : D} {p : D → Prop} (h : p d) : ∃ d1, (Sl.f d).cd = some d1 ∧ p d1 := ⟨d, rfl, h⟩
theorem x_excV {o : O} {d : D} {p : D → Prop} (h : o.cd = some d) (h2 : p d) : ∃ d1, (Sl.vw o).cd = some d1 ∧ p d1 := ⟨d, h, h2⟩
theorem x_exb {k : Bool} {p : Bool → Prop} (h : p k) : ∃ b, Sl.f (.bl k) = .f (.bl b) ∧ p b := ⟨k, rfl, h⟩
theorem x_exdb {k : Bool} {p : Bool → Prop} (h : p k) : ∃ b, D.bl k = .bl b ∧ p b := ⟨k, rfl, h⟩
theorem x_tru (h : w env fun s e => ∃ d, s.cd = some d ∧ dTru d fun b => QT b e) : wTru w env QT := h
theorem x_tB (h : w env fun s e => ∃ b, s = .f (.bl b) ∧ QT b e) : wTB w env QT := h
theorem x_dtB {k : Bool} {q : Bool → Prop} (h : q k) : dTru (.bl k) q := h
theorem x_tand (h : t env fun k e => if k = true then u e QT else QT false e) : wAnd t u env QT := h
theorem x_tor (h : t env fun k e => if k = true then QT true e else u e QT) : wOr t u env QT := h
theorem x_tnot (h : t env fun k e => QT (!k) e) : wNot t env QT := h
theorem x_and2 (h : w1 env fun s e => ∃ b, s = .f (.bl b) ∧ if b = true then w2 e Q else Q (.f (.bl false)) e) : wAndV w1 w2 env Q := h
theorem x_or2 (h : w1 env fun s e => ∃ b, s = .f (.bl b) ∧ if b = true then Q (.f (.bl true)) e else w2 e Q) : wOrV w1 w2 env Q := h
theorem x_not2 (h : w1 env fun s e => ∃ b, s = .f (.bl b) ∧ Q (.f (.bl (!b))) e) : wNotV w1 env Q := h
theorem x_chain {o1 o2 : Op2} (h : w1 env fun r1 e1 => ∃ d1, r1 = .f d1 ∧ w2 e1 fun r2 e2 => ∃ d2, r2 = .f d2 ∧ o1 d1 d2 fun d => ∃ k, d = .bl k ∧ if k = true then w3 e2 fun r3 e3 => ∃ d3, r3.cd = some d3 ∧ o2 d2 d3 fun d => Q (.f d) e3 else Q (.f (.bl false)) e2) : wChain o1 o2 w1 w2 w3 env Q := h
theorem x_itT {p q : Prop} {inst : Decidable (true = true)} (h : p) : @ite _ (true = true) inst p q := by rw [if_pos rfl]; exact h
theorem x_itF {p q : Prop} {inst : Decidable (false = true)} (h : q) : @ite _ (false = true) inst p q := by rw [if_neg Bool.false_ne_true]; exact h
theorem x_itTe {k : Bool} {p q : Prop} {inst : Decidable (k = true)} (e : k = true) (h : p) : @ite _ (k = true) inst p q := by rw [if_pos e]; exact h
theorem x_itFe {k : Bool} {p q : Prop} {inst : Decidable (k = true)} (e : k = false) (h : q) : @ite _ (k = true) inst p q := by rw [if_neg (by rw [e]; exact Bool.false_ne_true)]; exact h
theorem x_ite {k : Bool} {p q : Prop} {inst : Decidable (k = true)} (h1 : k = true → p) (h2 : k = false → q) : @ite _ (k = true) inst p q := by
  cases k with
  | true => rw [if_pos rfl]; exact h1 rfl
  | false => rw [if_neg Bool.false_ne_true]; exact h2 rfl
/-- a test of which more is known: the word's two ways -/
theorem x_iteD {a : Prop} [Decidable a] {p q : Prop} {inst : Decidable (decide a = true)} (h1 : a → p) (h2 : ¬ a → q) : @ite _ (decide a = true) inst p q := by
  by_cases h : a
  · rw [if_pos (decide_eq_true h)]; exact h1 h
  · rw [if_neg (by simpa using h)]; exact h2 h
theorem x_iteN {k : Bool} {p q : Prop} {inst : Decidable ((!k) = true)} (h : if k = true then q else p) : @ite _ ((!k) = true) inst p q := by
  cases k with
  | true => rw [if_neg (show ¬ (!true) = true from Bool.false_ne_true)]; exact (if_pos rfl).mp h
  | false => rw [if_pos (show (!false) = true from rfl)]; exact (if_neg Bool.false_ne_true).mp h
/-! operations -/
theorem x_sub {a b : Int} (h : QD (.int (a - b))) : dII (fun _ _ => True) (fun i j => i - j) (.int a) (.int b) QD := ⟨True.intro, h⟩
theorem x_mul {a b : Int} (hc : CMulW a b) (h : QD (.int (a * b))) : dII CMulW (fun i j => i * j) (.int a) (.int b) QD := ⟨hc, h⟩
theorem x_mod {a b : Int} (hc : 0 < b) (h : QD (.int (a % b))) : dII (fun _ j => 0 < j) (fun i j => i % j) (.int a) (.int b) QD := ⟨hc, h⟩
theorem x_div {a b : Int} (hc : CDivW a b) (h : QD (.int (a / b))) : dII CDivW (fun i j => i / j) (.int a) (.int b) QD := ⟨hc, h⟩
theorem x_pow {a b : Int} (hc : CPowW a b) (h : QD (.int (a ^ b.toNat))) : dII CPowW (fun i j => i ^ j.toNat) (.int a) (.int b) QD := ⟨hc, h⟩
theorem x_neg {a : Int} (h : QD (.int (-a))) : uNeg (.int a) QD := h
theorem x_un {o1 : Op1} (h : w env fun s e => ∃ d, s.cd = some d ∧ o1 d fun d' => Q (.f d') e) : wUn o1 w env Q := h
theorem x_addI {a b : Int} (h : QD (.int (a + b))) : dAdd (.int a) (.int b) QD := h
theorem x_addS {a b : Str} (hz : a.length + b.length ≤ sizeLine) (h : QD (.str (a ++ b))) : dAdd (.str a) (.str b) QD := ⟨hz, h⟩
theorem x_addL {a b : List D} (hz : a.length + b.length ≤ sizeLine) (h : QD (.lst (a ++ b))) : dAdd (.lst a) (.lst b) QD := ⟨hz, h⟩
theorem x_addT {a b : List D} (hz : a.length + b.length ≤ sizeLine) (h : QD (.tup (a ++ b))) : dAdd (.tup a) (.tup b) QD := ⟨hz, h⟩
theorem x_lt {a b : Int} {g : List Nat → List Nat → Bool} (h : QD (.bl (decide (a < b)))) : dCmp (fun i j => decide (i < j)) g (.int a) (.int b) QD := h
theorem x_le {a b : Int} {g : List Nat → List Nat → Bool} (h : QD (.bl (decide (a ≤ b)))) : dCmp (fun i j => decide (i ≤ j)) g (.int a) (.int b) QD := h
theorem x_gt {a b : Int} {g : List Nat → List Nat → Bool} (h : QD (.bl (decide (b < a)))) : dCmp (fun i j => decide (j < i)) g (.int a) (.int b) QD := h
theorem x_ge {a b : Int} {g : List Nat → List Nat → Bool} (h : QD (.bl (decide (b ≤ a)))) : dCmp (fun i j => decide (j ≤ i)) g (.int a) (.int b) QD := h
theorem x_ltS {a b : Str} {f : Int → Int → Bool} {g : List Nat → List Nat → Bool} (h : QD (.bl (g a.cps.toList b.cps.toList))) : dCmp f g (.str a) (.str b) QD := h
theorem x_eqI {a b : Int} (h : QD (.bl (decide (a = b)))) : dEq false (.int a) (.int b) QD := ⟨rfl, rfl, by rw [if_neg Bool.false_ne_true]; exact (show PyData.eqv (.int a) (.int b) = decide (a = b) by simp [PyData.eqv]; rfl) ▸ h⟩
theorem x_isT {neg : Bool} (h : QD (.bl (!neg))) : dIsN neg .non .non QD := ⟨rfl, h⟩
theorem x_ixL {ds : List D} {k : Int} {d : D} (ha : atI ds k = some d) (h : QD d) : dIx (.lst ds) (.int k) QD := ⟨d, ha, h⟩
theorem x_ixT {ds : List D} {k : Int} {d : D} (ha : atI ds k = some d) (h : QD d) : dIx (.tup ds) (.int k) QD := ⟨d, ha, h⟩
theorem atI_at {α : Type} {ds : List α} {k : Int} (h0 : 0 ≤ k) (h1 : k < ds.length) : ∃ d, atI ds k = some d ∧ ds[k.toNat]? = some d := by
  have hk : k.toNat < ds.length := by omega
  have h := L2.atI_nat (xs := ds) (List.getElem?_eq_getElem hk)
  rw [Int.toNat_of_nonneg h0] at h
  exact ⟨_, h, List.getElem?_eq_getElem hk⟩
theorem x_ixM {ds : List D} {k : Int} (h0 : 0 ≤ k) (h1 : k < ds.length) (h : ∀ d ∈ ds, QD d) : dIx (.lst ds) (.int k) QD := by
  obtain ⟨d, h2, h3⟩ := atI_at h0 h1
  exact ⟨d, h2, h d (List.mem_of_getElem? h3)⟩
theorem x_ixS {z : Str} {k : Int} {c : Nat} (hz : z.length ≤ sizeLine) (h0 : atI z.cps.toList k = some c) (h : QD (.str ⟨#[c]⟩)) : dIx (.str z) (.int k) QD := ⟨hz, c, h0, h⟩
/-! arguments, displays, calls -/
variable {wd wr : WAD} {QA : List D → Env → Prop}
theorem x_adN (h : QA [] env) : adNil env QA := h
theorem x_adC (h : w env fun r e => ∃ d, r = .f d ∧ wr e fun ds e2 => QA (d :: ds) e2) : adCons w wr env QA := h
theorem x_tup (h : wd env fun ds e => ds.length ≤ sizeLine ∧ Q (.f (.tup ds)) e) : wTupD wd env Q := h
theorem x_lst (h : wd env fun ds e => ds.length ≤ sizeLine ∧ Q (.f (.lst ds)) e) : wLstD wd env Q := h
theorem x_lstO (h : wd env fun ds e => ds.length ≤ sizeLine ∧ Q (.own (.lst ds)) e) : wLstOD wd env Q := h
theorem x_cb {o : OpC} (h : wd env fun ds e => o ds fun d => Q (.f d) e) : wCBD o wd env Q := h
theorem x_cb1 {o : OpC} {s : Sl} {d : D} (h1 : env[i]? = some (some s)) (h2 : s.cd = some d) (h : o [d] fun d => Q (.f d) env) : wCB1 o i env Q := ⟨s, d, h1, h2, h⟩
theorem x_callF {W : WFn} (h : wd env fun ds e => W ds fun r => Q r e) : wCallF W wd env Q := h
theorem x_callU {W : WUn} {s : Sl} (h0 : env[i]? = some (some s)) (h : wd env fun ds e => ∃ o, e[i]? = some (some (.own o)) ∧ W o ds fun r o' => Q r (e.set i (some (.own o')))) : wCallU i W wd env Q := ⟨⟨s, h0⟩, h⟩
theorem x_exO {p : O → Prop} {o : O} (h : env[i]? = some (some (.own o))) (h2 : p o) : ∃ o, env[i]? = some (some (.own o)) ∧ p o := ⟨o, h, h2⟩
theorem x_fm {m : FM} (h : w env fun r e => ∃ ds, r = .f (.lst ds) ∧ wd e fun as e2 => m as ds fun d => Q (.f d) e2) : wFMD m w wd env Q := h
theorem x_exl {ds : List D} {p : List D → Prop} (h : p ds) : ∃ d1, Sl.f (.lst ds) = .f (.lst d1) ∧ p d1 := ⟨ds, rfl, h⟩
theorem x_ext {ds : List D} {p : List D → Prop} (h : p ds) : ∃ d1, Sl.f (.tup ds) = .f (.tup d1) ∧ p d1 := ⟨ds, rfl, h⟩
theorem x_exs {a : Str} {p : Str → Prop} (h : p a) : ∃ d1, Sl.f (.str a) = .f (.str d1) ∧ p d1 := ⟨a, rfl, h⟩
theorem x_exi {a : Int} {p : Int → Prop} (h : p a) : ∃ d1, Sl.f (.int a) = .f (.int d1) ∧ p d1 := ⟨a, rfl, h⟩
theorem x_sl {lo hi : WO} (h : w env fun r e => ∃ d, r = .f d ∧ lo e fun l e2 => hi e2 fun u e3 => dSl d l u fun d => Q (.f d) e3) : wSl w lo hi env Q := h
theorem x_slN {q : Option Int → Env → Prop} (h : q none env) : woN env q := h
theorem x_slS {q : Option Int → Env → Prop} (h : w env fun r e => ∃ i, r = .f (.int i) ∧ q (some i) e) : woS w env q := h
theorem x_frz (h : w env fun r e => ∃ o d, r = .own o ∧ o.cd = some d ∧ Q (.f d) e) : wFrz w env Q := h
theorem x_frL {ds : List D} {p : D → Prop} (h : p (.lst ds)) : ∃ o d, Sl.own (.lst ds) = .own o ∧ o.cd = some d ∧ p d := ⟨_, _, rfl, rfl, h⟩
theorem x_setL {d : D} {ds : List D} {wi : WE} {q : Env → Prop} (h0 : env[i]? = some (some (.own (.lst ds)))) (h : wi env fun r e => ∃ k j ds, r = .f (.int k) ∧ e[i]? = some (some (.own (.lst ds))) ∧ ixN ds.length k = some j ∧ q (e.set i (some (.own (.lst (ds.set j d)))))) : gSetL i wi d env q := ⟨⟨ds, h0⟩, h⟩
theorem x_lc {wi : WI} {tg : Tgt} {vs : List Nat} (h : wi env fun ds e0 => ds.length ≤ 100000 ∧ ∃ J : Nat → List D → Env → Prop, J 0 [] e0 ∧
  (∀ i d acc e, ds[i]? = some d → J i acc e → ∃ xs, tg.get d = some xs ∧ t (setE (wipeE e vs) tg.js xs) fun b e2 => if b = true then w e2 fun r e3 => ∃ d', r = .f d' ∧ J (i + 1) (acc ++ [d']) e3 else J (i + 1) acc e2) ∧
  ∀ acc e, J ds.length acc e → Q (.own (.lst acc)) (wipeE e vs)) : wLc wi tg vs t w env Q := h
end
end Fx
namespace Fx
theorem mem1 {p : Nat → Prop} {x : PySem.Str} {a : Nat} (h : p a) : ∀ i ∈ [(x, a)].map (·.2), p i := fun i hi => by
  obtain rfl := List.mem_singleton.mp hi
  exact h
end Fx
namespace Fx
open PySem L2
section
variable {Q : D → Prop}
theorem x_lenL {ds : List D} (h : Q (.int ds.length)) : cLen [.lst ds] Q := h
theorem x_lenT {ds : List D} (h : Q (.int ds.length)) : cLen [.tup ds] Q := h
theorem x_lenS {z : Str} (hz : z.length ≤ sizeLine) (h : Q (.int z.length)) : cLen [.str z] Q := ⟨hz, h⟩
theorem x_max {a b : Int} (h : Q (.int (if b > a then b else a))) : cMax2 [.int a, .int b] Q := h
theorem x_min {a b : Int} (h : Q (.int (if b < a then b else a))) : cMin2 [.int a, .int b] Q := h
theorem x_all {bs : List Bool} (h : Q (.bl (bs.all id))) : cAll [.lst (bs.map D.bl)] Q := ⟨bs, rfl, h⟩
end
end Fx
namespace Fx
open PySem L2
theorem x_start {w : WS} {D : WEnds} {N : List Str} {as : List Sl} {e : Env} (h : startE N as = e) (q : w D e) : w D (startE N as) := by rw [h]; exact q
end Fx
namespace Fx
open PySem L2 Lk
def isInt : D → Bool
  | .int _ => true
  | .bl _ => true
  | _ => false
def isBl : D → Bool
  | .bl _ => true
  | _ => false
def isTup : D → Bool
  | .tup _ => true
  | _ => false
def isDic : D → Bool
  | .dic _ _ => true
  | _ => false
abbrev NoTy (d : D) : Prop := ∀ m, d ≠ .ty m
section
variable {d : D} {Q : D → Prop}
theorem kit_at {n : String} {b : Bool} {T : String} (e : tyN d = T) (nt : NoTy d) (h : kitB T n = some b) (q : Q (.bl b)) : cIsi [d, .ty n] Q := by
  refine ⟨b, ?_, q⟩
  unfold isiB
  split
  · exact absurd rfl (nt _)
  · rw [e]; exact h
theorem x_isInt (nt : NoTy d) (h : Q (.bl (isInt d))) : cIsi [d, .ty "int"] Q := by
  cases d <;> first | exact absurd rfl (nt _) | exact kit_at rfl nt (by simp only [tyN, isInt]; decide +kernel) h
theorem x_isBl (nt : NoTy d) (h : Q (.bl (isBl d))) : cIsi [d, .ty "bool"] Q := by
  cases d <;> first | exact absurd rfl (nt _) | exact kit_at rfl nt (by simp only [tyN, isBl]; decide +kernel) h
theorem x_isStr (nt : NoTy d) (h : Q (.bl (isStr d))) : cIsi [d, .ty "str"] Q := by
  cases d <;> first | exact absurd rfl (nt _) | exact kit_at rfl nt (by simp only [tyN, isStr]; decide +kernel) h
theorem x_isTup (nt : NoTy d) (h : Q (.bl (isTup d))) : cIsi [d, .ty "tuple"] Q := by
  cases d <;> first | exact absurd rfl (nt _) | exact kit_at rfl nt (by simp only [tyN, isTup]; decide +kernel) h
end
end Fx

namespace Fx
open PySem L2 Lk
def memB (ds : List D) (a : D) : Bool := (D.pyL ds).any fun z => PyData.eqv z a.py
def eqB (a b : D) : Bool := PyData.eqv a.py b.py
section
variable {Q : D → Prop}
theorem x_inT {a : D} {ds : List D} (h1 : okPy a = true) (h2 : okPy (.tup ds) = true) (h : Q (.bl (memB ds a))) : dIn false a (.tup ds) Q := ⟨h1, h2, h⟩
theorem x_inL {a : D} {ds : List D} (h1 : okPy a = true) (h2 : okPy (.lst ds) = true) (h : Q (.bl (memB ds a))) : dIn false a (.lst ds) Q := ⟨h1, h2, h⟩
theorem x_ninT {a : D} {ds : List D} (h1 : okPy a = true) (h2 : okPy (.tup ds) = true) (h : Q (.bl (!memB ds a))) : dIn true a (.tup ds) Q := ⟨h1, h2, h⟩
theorem x_ninL {a : D} {ds : List D} (h1 : okPy a = true) (h2 : okPy (.lst ds) = true) (h : Q (.bl (!memB ds a))) : dIn true a (.lst ds) Q := ⟨h1, h2, h⟩
theorem x_eqD {a b : D} (h1 : okPy a = true) (h2 : okPy b = true) (h : Q (.bl (eqB a b))) : dEq false a b Q := ⟨h1, h2, h⟩
theorem x_neD {a b : D} (h1 : okPy a = true) (h2 : okPy b = true) (h : Q (.bl (!eqB a b))) : dEq true a b Q := ⟨h1, h2, h⟩
theorem x_neI {a b : Int} (h : Q (.bl (!decide (a = b)))) : dEq true (.int a) (.int b) Q := ⟨rfl, rfl, by
  rw [if_pos rfl]
  exact (show PyData.eqv (.int a) (.int b) = decide (a = b) by simp [PyData.eqv]; rfl) ▸ h⟩
def isNon : D → Bool
  | .non => true
  | _ => false
theorem x_isN {neg : Bool} {a : D} (h : Q (.bl (if isNon a = true then !neg else neg))) : dIsN neg a .non Q := by
  refine ⟨rfl, ?_⟩
  cases a <;> exact h
end
section
variable {w : WE} {env : Env} {Q : Sl → Env → Prop}
theorem x_allSg {lo hi : Str} (h : w env fun r e => ∃ a, r = .f (.str a) ∧ Q (.f (.bl (nmB lo hi a))) e) : wAllSg lo hi w env Q := h
theorem x_allStr (h : w env fun r e => ∃ ds, r = .f (.tup ds) ∧ (∀ d ∈ ds, ∀ m, d ≠ .ty m) ∧ Q (.f (.bl (ds.all isStr))) e) : wAllStr w env Q := h
theorem nine {ds : List D} (h : ds.length = 9) : ∃ a b c d e f g i j, ds = [a, b, c, d, e, f, g, i, j] := by
  match ds, h with
  | [a, b, c, d, e, f, g, i, j], _ => exact ⟨a, b, c, d, e, f, g, i, j, rfl⟩
end
end Fx
namespace Fx
open PySem PySem.Spec PyProof.Rows L2 Evl Lk
section
variable {X : Cx} {G : Gx} {w : WE} {c P : Addr} {iter : Expr} {x : Str} {px p pos gpos p1 p2 p3 p4 : Pos} {scope : Scope} {k : Nat}
theorem ge_allSgR {lo hi : Str} {j1 j2 : Nat} (TB : GxR.TabB X.base X.mg c P) (hr : Room k X.A) (hg : Gl X "all") (hm : X.mg "all" = none) (hcode : X.env.code = .ref c) (S : GxR.GenS X.env scope x) (hi' : GE X G iter w) (hs : ∀ v, genFold iter X.env v = pure v) (hP : P ∈ G.tabs)
    (hk : scope.kind = .function) (hl : scope.names.lookup x = some .local) (hd : (x == ("__debug__" : Str)) = false := by decide)
    (he : starEach [.GeneratorExp (.Compare (.Constant (.str lo) j1 p1) [.LtE, .LtE] [.Name x p2, .Constant (.str hi) j2 p3] p4) [⟨.Name x px, iter, [], 0⟩] scope gpos] X.env = (false, eval (.GeneratorExp (.Compare (.Constant (.str lo) j1 p1) [.LtE, .LtE] [.Name x p2, .Constant (.str hi) j2 p3] p4) [⟨.Name x px, iter, [], 0⟩] scope gpos) X.env) :: starEach [] X.env := by rfl) :
    GE X G (.Call (.Name "all" p) [.GeneratorExp (.Compare (.Constant (.str lo) j1 p1) [.LtE, .LtE] [.Name x p2, .Constant (.str hi) j2 p3] p4) [⟨.Name x px, iter, [], 0⟩] scope gpos] [] pos) (wAllSg lo hi w) :=
  ge_allSg (pe_allG TB hr hg hm hcode S hi'.pe hs he) hi'.mono hP hk hl hd
theorem ge_allStrR (TB : GxR.TabB X.base X.mg c P) (hr : Room k X.A) (hg : Gl X "all") (hm : X.mg "all" = none) (hcode : X.env.code = .ref c) (S : GxR.GenS X.env scope x) (hi' : GE X G iter w) (hs : ∀ v, genFold iter X.env v = pure v) (hP : P ∈ G.tabs)
    (hk : scope.kind = .function) (hl : scope.names.lookup x = some .local) (g1 : scope.names.lookup ("isinstance" : Str) = some .globalImplicit) (m1 : X.mg "isinstance" = none) (g2 : scope.names.lookup ("str" : Str) = some .globalImplicit) (m2 : X.mg "str" = none) (hK : X.K = G.K := by rfl) (hd : (x == ("__debug__" : Str)) = false := by decide)
    (he : starEach [.GeneratorExp (.Call (.Name "isinstance" p1) [.Name x p2, .Name "str" p3] [] p4) [⟨.Name x px, iter, [], 0⟩] scope gpos] X.env = (false, eval (.GeneratorExp (.Call (.Name "isinstance" p1) [.Name x p2, .Name "str" p3] [] p4) [⟨.Name x px, iter, [], 0⟩] scope gpos) X.env) :: starEach [] X.env := by rfl) :
    GE X G (.Call (.Name "all" p) [.GeneratorExp (.Call (.Name "isinstance" p1) [.Name x p2, .Name "str" p3] [] p4) [⟨.Name x px, iter, [], 0⟩] scope gpos] [] pos) (wAllStr w) :=
  ge_allStr (pe_allG TB hr hg hm hcode S hi'.pe hs he) hi'.mono hP hk hl g1 m1 g2 m2 hK hd
end
end Fx

namespace Fx
open PySem PySem.Spec PyProof.Rows L2 Evl Lk
section
variable {X : Cx} {G : Gx}
end
section
variable {env : Env} {n b c : Env → Prop} {r : Sl → Env → Prop} {i : Nat} {we wi : WE} {o2 : Op2} {QD : D → Prop}
theorem x_setL1 {e : Env} {ds : List D} {k : Int} {j : Nat} {d : D} {q : Env → Prop} (h0 : e[i]? = some (some (.own (.lst ds)))) (hj : ixN ds.length k = some j) (h : q (e.set i (some (.own (.lst (ds.set j d)))))) : ∃ k' j ds, Sl.f (.int k) = .f (.int k') ∧ e[i]? = some (some (.own (.lst ds))) ∧ ixN ds.length k' = some j ∧ q (e.set i (some (.own (.lst (ds.set j d))))) := ⟨k, j, ds, rfl, h0, hj, h⟩
end
theorem mul_ok {i j : Int} (hi : i.natAbs < 2 ^ 250) (hj : j.natAbs < 2 ^ 250) : CMulW i j := by
  have a := PySem.Flt.log2_lt_of (by decide) hi
  have b := PySem.Flt.log2_lt_of (by decide) hj
  show i.natAbs.log2 + j.natAbs.log2 < 1000000
  omega
theorem div_ok {i j : Int} (h0 : 0 < j) (hj : j.natAbs < 2 ^ 250) : CDivW i j := ⟨h0, by
  have b := PySem.Flt.log2_lt_of (by decide) hj
  omega⟩
/-! ### the urn of a law -/
def Un (o : O) (n : Nat) : Prop := ∃ a b c : Int, o = .lst [.int a, .int b, .int c] ∧ b.natAbs < 2 ^ 200 ∧ 0 ≤ c ∧ c ≤ n
theorem Un.mono {o : O} {n m : Nat} (h : Un o n) (e : n ≤ m) : Un o m := let ⟨a, b, c, h1, h2, h3, h4⟩ := h; ⟨a, b, c, h1, h2, h3, by omega⟩
def wLot : WUn := fun o ds Q => ∃ n m, ds = [.int m] ∧ Un o n ∧ n < 100000 ∧ 0 < m ∧ m ≤ 1000000000 ∧ ∀ k o', 0 ≤ k → k < m → Un o' (n + 1) → Q (.f (.int k)) o'
theorem mono__law_lot : MonoU2 wLot := fun o ds Q Q' i ⟨n, m, h1, h2, h3, h4, h5, q⟩ => ⟨n, m, h1, h2, h3, h4, h5, fun k o' a b c => i _ _ (q k o' a b c)⟩
theorem x_lot {o : O} {n : Nat} {m : Int} {Q : Sl → O → Prop} (u : Un o n) (hn : n < 100000) (h0 : 0 < m) (h1 : m ≤ 1000000000) (q : ∀ k o', 0 ≤ k → k < m → Un o' (n + 1) → Q (.f (.int k)) o') : wLot o [.int m] Q := ⟨n, m, rfl, u, hn, h0, h1, q⟩
def wUrn : WFn := fun ds Q => ∃ c k : Int, ds = [.int c, .int k] ∧ 0 ≤ k ∧ k ≤ 63 ∧ ∀ o, Un o 0 → Q (.own o)
theorem mono__law_urn : MonoF wUrn := fun ds Q Q' i ⟨c, k, h1, h2, h3, q⟩ => ⟨c, k, h1, h2, h3, fun o u => i _ (q o u)⟩
end Fx
namespace Fx
open PySem PySem.Spec PyProof.Rows L2 Evl Lk
section
variable {env : Env} {Q : Sl → Env → Prop} {w w1 w2 : WE} {wd : WAD} {wa : WA} {QI : List D → Env → Prop} {QA : List Ag → Env → Prop} {n b c : Env → Prop} {r : Sl → Env → Prop}
theorem x_join (h : w1 env fun r1 e1 => ∃ a, r1 = .f (.str a) ∧ w2 e1 fun r2 e2 => ∃ ds ys, (r2.cd = some (.lst ds) ∨ r2.cd = some (.tup ds)) ∧ ds = ys.map D.str ∧ (ys.map (·.length)).sum + ys.length * a.length ≤ 16777216 ∧ Q (.f (.str (Txt.join a ys))) e2) : wJoin w1 w2 env Q := h
theorem x_waD (h : wd env fun ds e => QA (ds.map agD) e) : waD wd env QA := h
theorem x_r1 (h : wa env fun as e => ∃ j : Int, as = [.v (.f (.int j))] ∧ -(2 ^ 62) ≤ j ∧ j < 2 ^ 62 ∧ QI ((List.range j.toNat).map fun k : Nat => .int (0 + (k : Int))) e) : wiR1 wa env QI := h
theorem x_r2 (h : wa env fun as e => ∃ i j : Int, as = [.v (.f (.int i)), .v (.f (.int j))] ∧ (-(2 ^ 62) ≤ i ∧ i < 2 ^ 62 ∧ -(2 ^ 62) ≤ j ∧ j < 2 ^ 62) ∧ QI ((List.range (j - i).toNat).map fun k : Nat => .int (i + (k : Int))) e) : wiR2 wa env QI := h
theorem x_r1e {k : Int} {p : Int → Prop} (h0 : -(2 ^ 62) ≤ k) (h1 : k < 2 ^ 62) (h : p k) : ∃ j : Int, List.map agD [.int k] = [.v (.f (.int j))] ∧ -(2 ^ 62) ≤ j ∧ j < 2 ^ 62 ∧ p j := ⟨k, rfl, h0, h1, h⟩
theorem x_iL (h : w env fun r e => ∃ ds, r = .f (.lst ds) ∧ QI ds e) : wiL w env QI := h
theorem x_iT (h : w env fun r e => ∃ ds, r = .f (.tup ds) ∧ QI ds e) : wiT w env QI := h
theorem x_iS (h : w env fun r e => ∃ x, r = .f (.str x) ∧ QI (signs x) e) : wiS w env QI := h
theorem x_yes {QT : Bool → Env → Prop} (h : QT true env) : wYes env QT := h
theorem x_for {wi : WI} {g : WG} {ws : WS} (h : wi env fun ds e0 => ∃ J : Nat → Env → Prop, J 0 e0 ∧ (∀ i d e, ds[i]? = some d → J i e → g d e fun e' => ws ⟨J (i + 1), r, n, J (i + 1)⟩ e') ∧ ∀ e, J ds.length e → n e) : wFor wi g ws ⟨n, r, b, c⟩ env := h
theorem rng_at {k i : Nat} {d : D} (h : ((List.range k).map fun j : Nat => D.int (0 + (j : Int)))[i]? = some d) : i < k ∧ d = .int (i : Int) := by
  rw [List.getElem?_map] at h
  have hi : i < k := by
    rcases Nat.lt_or_ge i k with z | z
    · exact z
    · rw [List.getElem?_eq_none (by rw [List.length_range]; exact z)] at h
      cases h
  rw [List.getElem?_range hi] at h
  refine ⟨hi, ?_⟩
  have h : some (D.int (0 + (i : Int))) = some d := h
  rw [Int.zero_add] at h
  exact (Option.some.inj h).symm
end
end Fx
namespace Fx
open PySem PySem.Spec PyProof.Rows L2 Evl Lk
end Fx
namespace Fx
open PySem PySem.Spec PyProof.Rows L2 Evl Lk
/-! a cut behind a statement -/
def wCut (w1 w2 : WS) : WS := fun D env => ∃ P : Env → Prop, w1 ⟨P, D.rt, D.bk, D.ct⟩ env ∧ ∀ e, P e → w2 D e
theorem gss_cut {X : Cx} {G : Gx} {st : Stmt} {rest : List Stmt} {w1 w2 : WS} (h : GS X G st w1) (h2 : GSs X G rest w2) : GSs X G (st :: rest) (wCut w1 w2) := by
  have c := gss_cons h h2
  refine ⟨pss_imp c.pss fun D σ H ⟨T, env, F, r, P, q1, q2⟩ => ⟨T, env, F, r, h.mono _ _ _ ?_ q1⟩, fun D D' env l ⟨P, q1, q2⟩ => ⟨P, h.mono _ _ _ ?_ q1, fun e p => h2.mono _ _ _ l (q2 e p)⟩⟩
  · exact ⟨fun e p => q2 e p, fun _ _ q => q, fun _ q => q, fun _ q => q⟩
  · exact ⟨fun e p => p, l.rt, l.bk, l.ct⟩
section
variable {env : Env} {n b c : Env → Prop} {r : Sl → Env → Prop} {s1 s2 : WS}
theorem x_cut (P : Env → Prop) (h : s1 ⟨P, r, b, c⟩ env) (h2 : ∀ e, P e → s2 ⟨n, r, b, c⟩ e) : wCut s1 s2 ⟨n, r, b, c⟩ env := ⟨P, h, h2⟩
end
/-! texts -/
theorem strOk_list {x : Str} (h : ∀ c ∈ x.cps.toList, c < 0x110000) : PyData.strOk x = true := by
  unfold PyData.strOk
  rw [Array.all_eq_true']
  exact fun c hc => decide_eq_true (h c (by simpa using hc))
theorem strOk_mem {x : Str} (h : PyData.strOk x = true) : ∀ c ∈ x.cps.toList, c < 0x110000 := fun c hc => by
  unfold PyData.strOk at h
  rw [Array.all_eq_true'] at h
  exact of_decide_eq_true (h c (by simpa using hc))
theorem okPy_str {x : Str} (h : PyData.strOk x = true) : okPy (.str x) = true := by
  unfold okPy SeqAt.shaped
  rw [Bool.and_eq_true]
  exact ⟨by show PyData.canLay0 (.str x) = true; unfold PyData.canLay0; exact h, by show decide (PyData.depth (.str x) ≤ 64) = true; unfold PyData.depth; rfl⟩
end Fx
namespace Fx
open PySem PySem.Spec PyProof.Rows L2 Evl Lk
section
variable {Q : D → Prop} {env : Env} {QE : Sl → Env → Prop} {w : WE}
theorem x_slT {ds ds' : List D} {lo hi : Option Int} (e : cutD ds lo hi = ds') (h : Q (.tup ds')) : dSl (.tup ds) lo hi Q := by subst e; exact h
end
end Fx

namespace Fx
open PySem PySem.Spec PyProof.Rows L2 Evl Lk
/-! ### the law as the top calls it -/
def wLaw : WFn := fun ds Q => ∃ ns : List Int, ds = [.lst (ns.map D.int)] ∧ ns.length ≤ 63 ∧ Q (.f (.bl true))
theorem fz_ints {K : PySem.W.Frag} {H : Hp} : ∀ ns : List Int, FzL K H (ns.map V.int) (ns.map D.int)
  | [] => .nil
  | n :: ns => .cons (.int n) (fz_ints ns)
theorem law_at {l : PySem.W.OpenLaw} {w : World} {K : PySem.W.Frag} {k : Nat} {x : Str} {mg : Str → Option Value} {h : Heap} {fa : Addr} {fd : FuncData} {cs : List (Addr × Addr)}
    (hT : ∀ p ∈ cs, h.get? p.2 = some { cls := .none, data := .fields #[] }) (nT : ∀ p ∈ cs, K.lookup p.2 = none) (C : ∀ p ∈ cs, PySem.W.CodeHd h p.1 p.2) (hb : ∀ (s : Shared) (u : Value), BindsTo s fd ⟨[u], []⟩ [(x, u)])
    (F : ∀ base : Heap, K.In base → base.Ns mainGlobals mg → (∀ p ∈ cs, GxR.TabB base mg p.1 p.2) → FnOk l.prog w K mg base CX0 k fa fd [x] (spW K (cs.map (·.2)) (liftF wLaw))) : LawAt l w K k 63 x mg h fa := by
  refine ⟨fd, cs, _, hT, nT, C, hb, fun H a ns hn _ hH hS => ?_, F⟩
  have e : Ex H (hid (fun _ => False) H) := fun b o q => hid_of q id
  refine ⟨fun _ => False, [.f (.lst (ns.map D.int))], fun _ => [], ⟨fun _ z => z.elim, fun p hp => ?_, fun i s hs => ?_, fun i j _ ⟨o, ho⟩ => ?_, .refl fun _ z => z.elim, fun b ⟨i, ⟨o, ho⟩, _⟩ => ?_, fun _ z => z.elim, fun _ _ => rfl, rfl, ex_none⟩, [.lst (ns.map D.int)], rfl, ns, rfl, hn, fun v T' H' F' fr r' _ zs => ?_⟩
  · obtain ⟨q, hq, rfl⟩ := List.mem_map.mp hp
    exact ⟨hH q hq, id⟩
  · cases i with
    | zero =>
      cases hs
      exact ⟨.ref a, rfl, .lst (ex_l e hS.l) (fz_ints ns), rfl⟩
    | succ i => cases hs
  · cases i with
    | zero => cases ho
    | succ i => cases ho
  · cases i with
    | zero => cases ho
    | succ i => cases ho
  · have z := zs.rel.1
    cases z
    exact ⟨rfl, fun p hp => (r'.tab p.2 (List.mem_map.mpr ⟨p, hp, rfl⟩)).1⟩
end Fx

namespace L2
open PySem PySem.Spec PyProof.Rows
/-! ### except x as n, the exception's object tracked within the suite and behind it -/
section
variable {X : Cx} {pins : List (Addr × Obj)} {σ : St} {H : Hp} {s : Shared} {a : Addr} {o : HO}
end
section
variable {X : Cx} {x n : Str} {c : Value} {i : Nat} {body suite : List Stmt} {b₀ : Stmt} {np pos pos' : Pos} {tb : WX → TS} {ts : TS} {Wout : WX}
end
end L2

namespace Fx
open PySem PySem.Spec PyProof.Rows L2 Evl Lk

/-! ### defs that may raise, called -/
section
variable {P : Program} {w : World} {K : PySem.W.Frag} {mg : Str → Option Value} {base : Heap} {x : Str} {st : Stmt} {ps : List Str} {k : Nat} {sp : Sp} {f : Addr} {fd : FuncData} {c : Addr}
end

section
variable {X : Cx} {G : Gx} {e : Expr} {es : List Expr} {wa : WA} {x : Str} {k j : Nat} {W : WDX} {tabs : List Addr} {p pos : Pos}
end

/-! ### raise -/
section
variable {X : Cx} {G : Gx} {x : Str} {C : Addr} {p p2 pos pos2 : Pos} {m : Str} {j : Nat}
end

/-! ### try -/
section
variable {G : Gx} {xw : Xv → Env → Prop} {h0 : Hp} {T : Addr → Prop} {H : Hp} {σ : L2.St} {env : Env} {F : Nat → List Addr}
end
section
variable {X : Cx} {G : Gx} {x n : Str} {c : Value} {i : Nat} {body suite : List Stmt} {b₀ : Stmt} {np pos pos' : Pos} {tb : (Xv → Env → Prop) → WS} {ts : WS}
end
end Fx

namespace PySem.W
open PySem
section
variable {prog : Program} {w : World} {A : Around} {E : Value → Shared → Prop} {s : Shared} {K : Frag} {x D : Addr} {ox : Obj} {od : Option Obj}
end
end PySem.W
namespace Fx
open PySem PySem.Spec PyProof.Rows L2 Evl Lk
/-! ### exceptions as values -/
section
variable {X : Cx} {G : Gx} {pins : List (Addr × Obj)} {σ : L2.St} {H : Hp} {s : Shared} {a C : Addr} {d : Option Addr} {row : Option Int}
/-! isinstance -/
/-! e.row -/
end
end Fx

/-! an own exception class whose __init__(self, row) says super().__init__(a text of row); self.row = row -/
namespace PySem
namespace RowX
open PySem.W PySem.Calls PyProof.Rows PySem.HandSPX
section
variable {prog : Program} {w : World} {A : Around} {E : Value → Shared → Prop} {h : Heap} {g : Array GenState} {d : Drawn} {t : Nat} {os : OsState}
variable {nm q : Str} {C N : Addr} {bs bm : List Value} {hdct : Bool} {sn : List Str} {sub : List Value} {ab : Bool} {col : Option Bool} {dd : Option Addr} {k0 k1 k2 k3 k5 : Option Value}
end
section
variable {prog : Program} {w : World} {A : Around} {E : Value → Shared → Prop} {R : Result → Shared → Prop} {s : Shared} {K : Frag} {mg mb : Str → Option Value} {x : Str} {C : Addr}
end
end RowX
end PySem
namespace L2
open PySem PySem.Spec PyProof.Rows
section
variable {X : Cx} {C : Addr} {x : Str}
end
end L2
namespace Fx
open PySem PySem.Spec PyProof.Rows L2 Evl Lk
section
variable {X : Cx} {G : Gx} {x : Str} {C : Addr} {a : Expr} {w : WE} {p pos pos2 : Pos} {k : Nat}
end
end Fx

namespace Fx
open PySem PySem.Spec PyProof.Rows L2 Evl Lk

/-! ### text.split(sep) -/
theorem fzl_strs {K : PySem.W.Frag} {H : Hp} : ∀ (ys : List Str), FzL K H (ys.map V.str) (ys.map D.str)
  | [] => .nil
  | y :: ys => .cons (.str y) (fzl_strs ys)
section
variable {X : Cx} {G : Gx} {e : Expr} {w w1 w2 : WE}
end

/-! ### xs[lo:hi:k] of a list -/
section
variable {X : Cx} {G : Gx} {e : Expr} {w : WE} {lo hi : Option Expr}
end

/-! ### f-strings -/
section
variable {X : Cx} {G : Gx} {e : Expr} {w : WE}
end

/-! ### steps of walks -/
section
variable {w w1 w2 : WE} {wl wh : WO} {env : Env} {Q : Sl → Env → Prop} {ws : List WE} {acc : Str} {QJ : Str → Env → Prop}
end
end Fx

namespace Fx
open PySem PySem.Spec PyProof.Rows L2 Evl Lk

/-! ### another wish -/
section
variable {X : Cx} {G : Gx} {xw : Xv → Env → Prop} {T : Addr → Prop} {H : Hp} {σ : L2.St} {env : Env} {F : Nat → List Addr} {st : List Stmt} {w : WS}
end

/-! ### defs of values that may raise -/
section
variable {xw : Xv → Env → Prop} {W : WFnX} {wd : WAD}
end
section
variable {X : Cx} {G : Gx} {e : Expr} {es : List Expr} {wd : WAD} {x : Str} {k j : Nat} {tabs : List Addr} {p pos : Pos} {W : WFnX}
end
section
variable {P : Program} {w : World} {K : PySem.W.Frag} {mg : Str → Option Value} {base : Heap} {x : Str} {st : Stmt} {N ps : List Str} {k : Nat} {tabs : List Addr}
end

/-! ### a, b = a list -/
section
variable {X : Cx} {G : Gx} {pos : Pos}
end

/-! ### steps of walks -/
section
variable {w : WE} {wd : WAD} {env : Env} {Q : Sl → Env → Prop} {W : WFnX} {xw : Xv → Env → Prop} {ds : List D} {q : Env → Prop} {D0 : WEnds}
end
end Fx

namespace Fx
open PySem PySem.Spec PyProof.Rows L2 Evl Lk
/-! ### more steps of walks -/
section
variable {wa : WA} {env : Env} {QI : List D → Env → Prop} {ds es : List D} {p : List D → List D → Prop}
end
theorem x_isN0 {neg : Bool} {a : D} {Q : D → Prop} (h : isNon a = false) (k : Q (.bl neg)) : dIsN neg a .non Q := x_isN (by rw [h]; exact k)
theorem take_snoc {α : Type} {l : List α} {i : Nat} {x : α} (h : l[i]? = some x) : l.take (i + 1) = l.take i ++ [x] := by
  rw [List.take_succ, h]
  rfl
end Fx

namespace Fx
open PySem PySem.Spec PyProof.Rows L2 Evl Lk
/-! ### what the top has written of a class whose exceptions have a row -/
end Fx

/-! len(set(xs)), xs a list of texts, as many as there are (HandS.Strs has it for one) -/
namespace Fx.SS
open PySem PySem.Spec PyProof.Rows
/-- what was met so far, each once -/
def met {κ : Type} [BEq κ] (key : Nat → κ) : Nat → List κ
  | 0 => []
  | i + 1 => if (met key i).any (· == key i) then met key i else met key i ++ [key i]
theorem met_len {κ : Type} [BEq κ] (key : Nat → κ) : ∀ i, (met key i).length ≤ i
  | 0 => Nat.le_refl _
  | i + 1 => by
    have := met_len key i
    unfold met
    split
    · omega
    · rw [List.length_append, List.length_singleton]; omega
section
variable {prog : Program} {w : World} {A : Around} {R : Result → Shared → Prop} {I : Addr} {fp wr : List Addr} {G : Array GenState → Array GenState → Prop} {n : Nat} {P : Nat → Value → Prop} {St : Nat → Shared → Prop}
end
section
variable {prog : Program} {w : World} {A : Around} {E : Value → Shared → Prop} {s : Shared}
end
end Fx.SS

namespace Fx
open PySem PySem.Spec PyProof.Rows L2 Evl Lk
/-! ### x[a:c] = a list, x a slot that owns a list -/
section
variable {X : Cx} {G : Gx}
end
end Fx

namespace Fx
open PySem PySem.Spec PyProof.Rows L2 Evl Lk
/-! ### {k: v, ..}: an owned dict of values -/
def dK : Key → D
  | .inl i => .int i
  | .inr x => .str x
section
variable {X : Cx} {G : Gx} {pos : Pos}
theorem owl_fs {K : PySem.W.Frag} {T : Addr → Prop} {H : Hp} : ∀ {ds : List D} {vs : List V}, FzL K (hid T H) vs ds → OwL K T H (ds.map O.f) vs []
  | [], _, h => by cases h; exact .nil
  | d :: ds, _, h => by
    cases h with
    | cons a b => exact .cons (f1 := []) (.f a) (owl_fs b) (by simp)
end
/-! ### d.get(k) of a dict value -/
section
variable {X : Cx} {G : Gx} {o e : Expr} {w1 w2 : WE} {apos cpos : Pos}
theorem fz_dK {K : PySem.W.Frag} {H : Hp} {v : V} {k : Key} (h : Fz K H v (dK k)) : v = kV k := by
  cases k <;> cases h <;> rfl
end
end Fx

/-! defs that are called while an exception is handled, the exception tracked -/
namespace L2H
open PySem PySem.Spec PyProof.Rows
end L2H
namespace L2
open PySem PySem.Spec PyProof.Rows L2H
section
variable {P : Program} {w : World} {K : PySem.W.Frag} {mg : Str → Option Value} {base : Heap} {N ps : List Str} {qual : Str} {scope : Scope} {f : Addr} {A : Around} {outer : List Env} {s s1 : Shared} {H : Hp} {E : XK} {us : List Value} {vs : List V}
end
section
variable {X : Cx} {x : Str} {p pos : Pos} {k j : Nat} {sp : Sp} {e : Expr} {es : List Expr} {ta : TA}
end
end L2

namespace Fx
open PySem PySem.Spec PyProof.Rows L2 L2H Evl Lk
/-! ### defs that are called in except suites -/
section
variable {P : Program} {w : World} {K : PySem.W.Frag} {mg : Str → Option Value} {base : Heap} {x q : Str} {st : Stmt} {N ps : List Str} {k : Nat} {tabs : List Addr}
end
section
variable {X : Cx} {G : Gx} {e : Expr} {es : List Expr} {wd : WAD} {x : Str} {k j : Nat} {tabs : List Addr} {p pos : Pos} {W : WFn}
end

/-! ### isinstance(x, (A, B, ..)) -/
section
variable {X : Cx} {G : Gx}
end
end Fx

namespace Fx
open PySem PySem.Spec PyProof.Rows L2 L2H Evl Lk
/-! ### text.split(sep), owned -/
section
variable {X : Cx} {G : Gx} {e : Expr} {w w1 w2 : WE}
/-! ### x[lo:hi], x a slot that owns a list -/
end
/-! ### steps of walks -/
section
variable {w1 w2 : WE} {wl wh : WO} {env : Env} {Q : Sl → Env → Prop} {w r : WPs} {QP : List (D × D) → Env → Prop}
end
end Fx

namespace Fx
open PySem PySem.Spec PyProof.Rows L2 Evl Lk
/-! ### len(set(xs)), xs a list of texts, as many as there are -/
/-- how many different ones -/
def dst (xs : List Str) : Nat := (SS.met (fun i => xs.getD i Str.empty) xs.length).length
section
variable {X : Cx} {G : Gx} {w : WE}
end
end Fx

namespace Fx
open PySem PySem.Spec PyProof.Rows L2 Evl Lk
/-! ### comprehensions of two fors -/
section
variable {G : Gx} {T T1 T4 : Addr → Prop} {H H1 H2 H4 : Hp} {σ σ' σ2 : L2.St} {env e e4 : Env} {F F1 F4 : Nat → List Addr} {Dl : Addr} {acc : List D} {vacc : List V} {vs v1 v2 : List Nat}
end
section
variable {X : Cx} {G : Gx} {wi wi1 : WI} {tg tg1 : Tgt} {vs vs1 : List Nat} {t t1 : WT} {w : WE}
end
end Fx

namespace Fx
open PySem PySem.Spec PyProof.Rows L2 Evl Lk
/-! ### comprehensions of two fors: the rules -/
section
variable {X : Cx} {G : Gx} {elt tg iter tg1 iter1 c c1 : Expr} {scope : Scope} {own : List (Str × Nat)} {vs1 : List Nat} {pos : Pos} {wi wi1 : WI} {t t1 : Tgt} {w : WE} {wt wt1 : WT}
/-! the walk -/
end
end Fx

namespace Fx
open PySem PySem.Spec PyProof.Rows L2 Evl Lk
/-! ### xs.append(e), xs owned -/
def wApp (k : Nat) (wd : WAD) : WS := fun D env => (∃ s, env[k]? = some (some (.own (.lst s)))) ∧ wd env fun as e => ∃ d ds, as = [d] ∧ e[k]? = some (some (.own (.lst ds))) ∧ ds.length ≤ 100000 ∧ D.nx (e.set k (some (.own (.lst (ds ++ [d])))))
section
variable {X : Cx} {G : Gx} {wd : WAD}
theorem gs_append {o e : Expr} {k : Nat} {apos cpos pos : Pos} (ho : PE X o (tVar k)) (ha : GD X G [e] wd) (hs : swapsWith (.Call (.Attribute o "append" apos) [e] [] cpos) none pos.line X.env = pure false := by rfl)
    (hbase : attributeBase o "append" X.env (eval o X.env) = eval o X.env := by rfl)
    (hfew : ((backTo cpos (starEach [e] X.env)).all (fun x => !x.1) && (backToKw cpos (keywordEach [] X.env)).all (fun x => x.1.isSome) && decide (([e] : List Expr).length + ([] : List Keyword).length + (if ([] : List Keyword).isEmpty then 0 else 1) < 30)) = true := by rfl)
    (hline : (apos.endLine == cpos.line) = true := by rfl) (hst : starEach [e] X.env = (false, eval e X.env) :: starEach [] X.env := by rfl) (hpl : (backTo cpos (starEach [] X.env)).any (·.1) = false := by rfl) :
    GS X G (.Expr (.Call (.Attribute o "append" apos) [e] [] cpos) pos) (wApp k wd) := by
  refine ⟨ps_imp (ps_expr (pe_bm PySem.F.plainAttrs_list PySem.F.slot_list_append PySem.F.type_list_append mt_append ho ha.ga.pa hbase hfew hline hst hpl) hs) fun D σ H ⟨T, env, F, r, ⟨s0, h0⟩, q⟩ => ?_, fun D D' env l ⟨h0, q⟩ => ⟨h0, ha.mono _ _ _ (fun as e ⟨d, ds, h1, h2, h3, q⟩ => ⟨d, ds, h1, h2, h3, l.nx _ q⟩) q⟩⟩
  obtain ⟨p0, vs0, s1, hp0, _, _⟩ := own_lst r h0
  refine ⟨_, s1, ?_, T, env, F, r, ha.mono _ _ _ (fun as e ⟨d, ds, h1, h2, h3, q⟩ vs T1 H1 F1 Fa a z => ?_) q⟩
  · exact .inl ⟨rfl, vs0, SqL.of hp0⟩
  subst h1
  obtain ⟨v, v1, v2, _⟩ := z.val 0 (.f d) rfl
  have hl : vs.length = 1 := z.len
  obtain ⟨p, ws, s2, hp1, f1, upd_⟩ := own_lst a.re h2
  rw [s1] at s2
  cases s2
  have e1 : vs = [v] := by
    match vs, hl, v1 with
    | [x], _, v1 => cases v1; rfl
  have fz : Fz G.K (hid T1 H1) v d := v2.1
  have a2 := upd_ (ws ++ [v]) (ds ++ [d]) (f1.append (.cons fz .nil))
  exact ⟨p0, ws, v, rfl, e1, hp1, by rw [f1.length]; exact Nat.lt_of_le_of_lt h3 (by decide), q σ T1 _ F1 a2.re ((a.chg.hid r.sub).trans (a2.chg.hid a.re.sub))⟩
theorem x_app {k : Nat} {D : WEnds} {env : Env} {s : List Fx.D} (h0 : env[k]? = some (some (.own (.lst s)))) (h : wd env fun as e => ∃ d ds, as = [d] ∧ e[k]? = some (some (.own (.lst ds))) ∧ ds.length ≤ 100000 ∧ D.nx (e.set k (some (.own (.lst (ds ++ [d])))))) : wApp k wd D env := ⟨⟨s, h0⟩, h⟩
theorem x_appE {k : Nat} {q : Env → Prop} {env : Env} {d : Fx.D} {ds : List Fx.D} (h0 : env[k]? = some (some (.own (.lst ds)))) (hl : ds.length ≤ 100000) (h : q (env.set k (some (.own (.lst (ds ++ [d])))))) : ∃ d' ds', [d] = [d'] ∧ env[k]? = some (some (.own (.lst ds'))) ∧ ds'.length ≤ 100000 ∧ q (env.set k (some (.own (.lst (ds' ++ [d']))))) := ⟨d, ds, rfl, h0, hl, h⟩
end
end Fx

namespace Fx
open PySem PySem.Spec PyProof.Rows L2 Evl Lk
/-! ### x op e, x a name whatever it holds: read again behind e -/
def wBinV (o : Op2) (i : Nat) (w2 : WE) : WE := fun env Q => (∃ s, env[i]? = some (some s)) ∧ w2 env fun r2 e2 => ∃ s d1 d2, e2[i]? = some (some s) ∧ s.cd = some d1 ∧ r2.cd = some d2 ∧ o d1 d2 fun d => Q (.f d) e2
section
variable {X : Cx} {G : Gx} {o : Op2} {w2 : WE} {i : Nat} {a b : Expr} {pos : Pos}
theorem binVW (mb : MonoE w2) (mo : MonoO o) {σ : L2.St} {H : Hp} {Q : VK} (h : tW G (wBinV o i w2) σ H Q) : tOp (rO G o) (tVar i) (tW G w2) σ H Q := by
  obtain ⟨T, env, F, r, ⟨s0, h0⟩, q⟩ := h
  obtain ⟨v, hv, _⟩ := r.slot i s0 h0
  refine ⟨v, hv, T, env, F, r, mb env _ _ (fun r2 e2 ⟨s, d1, d2, h1, c1, c2, q⟩ v2 T2 H2 F2 f2 a2 z2 => ?_) q⟩
  obtain ⟨v', hv', z1⟩ := a2.re.slot i s h1
  rw [hv] at hv'
  cases hv'
  refine ⟨T2, d1, d2, a2.re.trk, z1.cz c1, z2.rel.cz c2, mo _ _ _ _ (fun d q v H3 e3 fz => ?_) q⟩
  exact q v T2 H3 F2 [] (a2.trans r.trk (Att.ex a2.re e3)) ⟨⟨fz, rfl⟩, nofun, nofun⟩
theorem monoBinV (mb : MonoE w2) (mo : MonoO o) : MonoE (wBinV o i w2) := fun env Q Q' j ⟨h, q⟩ => ⟨h, mb env _ _ (fun r2 e2 ⟨s, d1, d2, h1, c1, c2, q⟩ => ⟨s, d1, d2, h1, c1, c2, mo _ _ _ _ (fun d q => j _ _ q) q⟩) q⟩
theorem gt_cmpV {op : CmpOp} (ho : OpX X G (compareOp op) o) (ha : PE X a (tVar i)) (hb : GE X G b w2) (hm : behindInMarks op b = false) : GT X G (.Compare a [op] [b] pos) (wTB (wBinV o i w2)) := by
  have m := monoBinV (i := i) hb.mono ho.mono
  refine ⟨pt_imp (pt_cmpR ho.ok ha hb.pe hm) fun σ H Q ⟨T, env, F, r, q⟩ => ?_, fun env Q Q' i q => m env _ _ (fun s e ⟨b, hb, q⟩ => ⟨b, hb, i _ _ q⟩) q⟩
  refine binVW hb.mono ho.mono ⟨T, env, F, r, m env _ _ (fun s e ⟨b, hb, q⟩ v T' H' F' fr a z => ?_) q⟩
  subst hb
  obtain ⟨h1, _⟩ := z.rel
  cases h1
  exact ⟨_, rfl, q T' H' F' a⟩
theorem ge_ixV (ho : IxX X G o) (ha : PE X a (tVar i)) (hb : GE X G b w2) (hs : PlainIx b) : GE X G (.Subscript a b pos) (wBinV o i w2) :=
  ⟨pe_imp (pe_ix ho.ok ha hb.pe hs) fun _ _ _ h => binVW hb.mono ho.mono h, monoBinV hb.mono ho.mono⟩
theorem x_binV {env : Env} {Q : Sl → Env → Prop} {s : Sl} (h0 : env[i]? = some (some s)) (h : w2 env fun r2 e2 => ∃ s d1 d2, e2[i]? = some (some s) ∧ s.cd = some d1 ∧ r2.cd = some d2 ∧ o d1 d2 fun d => Q (.f d) e2) : wBinV o i w2 env Q := ⟨⟨s, h0⟩, h⟩
end
end Fx

namespace Fx
open PySem PySem.Spec PyProof.Rows L2 Evl Lk
/-! ### is True, is False, asked of a truth value -/
section
variable {X : Cx} {G : Gx}
end
/-! ### xs.pop(e), xs owned -/
def wPopD (k : Nat) (wd : WAD) : WE := fun env Q => (∃ s, env[k]? = some (some (.own (.lst s)))) ∧ wd env fun as e => ∃ (i : Int) (ds : List D) (d : D), as = [.int i] ∧ e[k]? = some (some (.own (.lst ds))) ∧ 0 ≤ i ∧ ds.length ≤ 100000 ∧ ds[i.toNat]? = some d ∧ Q (.f d) (e.set k (some (.own (.lst (ds.eraseIdx i.toNat)))))
section
variable {X : Cx} {G : Gx} {wd : WAD}
theorem ge_popD {o e : Expr} {k : Nat} {apos cpos : Pos} (ho : PE X o (tVar k)) (ha : GD X G [e] wd)
    (hbase : attributeBase o "pop" X.env (eval o X.env) = eval o X.env := by rfl)
    (hfew : ((backTo cpos (starEach [e] X.env)).all (fun x => !x.1) && (backToKw cpos (keywordEach [] X.env)).all (fun x => x.1.isSome) && decide (([e] : List Expr).length + ([] : List Keyword).length + (if ([] : List Keyword).isEmpty then 0 else 1) < 30)) = true := by rfl)
    (hline : (apos.endLine == cpos.line) = true := by rfl) (hst : starEach [e] X.env = (false, eval e X.env) :: starEach [] X.env := by rfl) (hpl : (backTo cpos (starEach [] X.env)).any (·.1) = false := by rfl) :
    GE X G (.Call (.Attribute o "pop" apos) [e] [] cpos) (wPopD k wd) := by
  refine ⟨pe_imp (pe_bm PySem.F.plainAttrs_list PySem.F.slot_list_pop PySem.F.type_list_pop mt_popAt ho ha.ga.pa hbase hfew hline hst hpl) fun σ H Q ⟨T, env, F, r, ⟨s0, h0⟩, q⟩ => ?_, fun env Q Q' ii ⟨h0, q⟩ => ⟨h0, ha.mono _ _ _ (fun as e ⟨i, ds, d, h1, h2, h3, h4, h5, q⟩ => ⟨i, ds, d, h1, h2, h3, h4, h5, ii _ _ q⟩) q⟩⟩
  obtain ⟨p0, vs0, s1, hp0, _, _⟩ := own_lst r h0
  refine ⟨_, s1, .inl ⟨rfl, vs0, SqL.of hp0⟩, T, env, F, r, ha.mono _ _ _ (fun as e ⟨i, ds, d, h1, h2, h3, h4, h5, q⟩ vs T1 H1 F1 Fa a z => ?_) q⟩
  subst h1
  obtain ⟨v, v1, v2, _⟩ := z.val 0 (.f (.int i)) rfl
  have hl : vs.length = 1 := z.len
  obtain ⟨p, ws, s2, hp1, f1, upd_⟩ := own_lst a.re h2
  rw [s1] at s2
  cases s2
  have e1 : vs = [v] := by
    match vs, hl, v1 with
    | [x], _, v1 => cases v1; rfl
  have fz : Fz G.K (hid T1 H1) v (.int i) := v2.1
  cases fz
  have hj : i.toNat < ws.length := by rw [f1.length]; exact (List.getElem?_eq_some_iff.mp h5).1
  have a2 := upd_ (ws.eraseIdx i.toNat) (ds.eraseIdx i.toNat) (f1.erase _)
  have fd := f1.get (List.getElem?_eq_getElem hj) h5
  have hlen : ws.length ≤ 100000 := by rw [f1.length]; exact h4
  refine ⟨p0, ws, i, i.toNat, ws[i.toNat], rfl, e1, hp1, by omega, by omega, ?_, List.getElem?_eq_getElem hj, q _ T1 _ F1 [] (a.trans r.trk a2) (res_f (fd.ex (a2.chg.hid a.re.sub)))⟩
  unfold seqIndex?
  simp
  omega
theorem x_popD {k : Nat} {Q : Sl → Env → Prop} {env : Env} {s : List D} (h0 : env[k]? = some (some (.own (.lst s)))) (h : wd env fun as e => ∃ (i : Int) (ds : List D) (d : D), as = [.int i] ∧ e[k]? = some (some (.own (.lst ds))) ∧ 0 ≤ i ∧ ds.length ≤ 100000 ∧ ds[i.toNat]? = some d ∧ Q (.f d) (e.set k (some (.own (.lst (ds.eraseIdx i.toNat)))))) : wPopD k wd env Q := ⟨⟨s, h0⟩, h⟩
end
/-! ### x + e, lists, x a name, the sum owned -/
section
variable {X : Cx} {G : Gx} {w2 : WE} {i : Nat} {a b : Expr} {pos : Pos}
/-! ### x op e, as a value; x[lo:hi] of a value, the part owned -/
def wSlN (w : WE) (lo hi : WO) : WE := fun env Q => w env fun r e => ∃ ds, r = .f (.lst ds) ∧ lo e fun l e2 => hi e2 fun u e3 => Q (.own (.lst (cutD ds l u))) e3
theorem ge_slN {e : Expr} {w : WE} {lo hi : Option Expr} {wl wh : WO} {p2 : Pos} (he : GE X G e w) (hl : GO X G lo wl) (hu : GO X G hi wh) (hK : X.K = G.K := by rfl) : GE X G (.Subscript e (.Slice lo hi none p2) pos) (wSlN w wl wh) := by
  refine ⟨pe_imp (pe_slice (r := fun x lo hi H Q => ∃ a vs, x = .ref a ∧ SqL X.K H a vs ∧ ∀ p, H p = none → Q (.ref p) (upd H p (.lst (cutV vs lo hi)))) (fun pins s σ H x v vl vu lo hi sl Q I rx hs pl pu h => sl_list pins s σ H x v vl vu lo hi sl Q I rx hs pl pu h) he.pe hl.po hu.po) fun σ H Q ⟨T, env, F, r, q⟩ => ⟨T, env, F, r, he.mono _ _ _ (fun s e ⟨ds, hs, q⟩ x T1 H1 F1 f1 a1 z1 => ?_) q⟩, fun env Q Q' i q => he.mono _ _ _ (fun s e ⟨ds, hs, q⟩ => ⟨ds, hs, hl.mono _ _ _ (fun l e2 q => hu.mono _ _ _ (fun u e3 q => i _ _ q) q) q⟩) q⟩
  subst hs
  refine ⟨T1, e, F1, a1.re, hl.mono _ _ _ (fun l e2 q T2 H2 F2 a2 => ⟨T2, e2, F2, a2.re, hu.mono _ _ _ (fun u e3 q T3 H3 F3 a3 => ?_) q⟩) q⟩
  have a13 := (a1.trans r.trk a2).trans r.trk a3
  obtain ⟨p1, vs, rfl, l1, f⟩ := Cz.of (Fz.att a2.re a3 (Fz.att a1.re a2 z1.rel.1))
  refine ⟨p1, vs, rfl, by rw [hK]; exact l1, fun p np => ?_⟩
  exact q _ _ _ F3 [p] (a13.trans r.trk (att_new a3.re np)) (res_trans r.trk a13 (own_new a3.re np (.lst (.inr rfl) upd_same ((f.cut l u).ex (hid_new np)))))
theorem x_slN2 {w : WE} {lo hi : WO} {env : Env} {Q : Sl → Env → Prop} (h : w env fun r e => ∃ ds, r = .f (.lst ds) ∧ lo e fun l e2 => hi e2 fun u e3 => Q (.own (.lst (cutD ds l u))) e3) : wSlN w lo hi env Q := h
end
end Fx

namespace Fx
open PySem PySem.Spec PyProof.Rows L2 Evl Lk
theorem x_tplL {ds : List D} {Q : D → Prop} (h : Q (.tup ds)) : cTuple [.lst ds] Q := h
end Fx

namespace Fx
open PySem PySem.Spec PyProof.Rows L2 Evl Lk
/-! ### sets whose order of walking is known: what L2 has for whole numbers, for any kind of key -/
namespace SO
variable {P : Program} {w : World} {κ : Type} [DecidableEq κ] {knd : KeyKind P w κ}
def SetS (knd : KeyKind P w κ) (h : Heap) (a : Addr) (S : κ → Bool) (n : Nat) : Prop := ∃ (o : Obj) (es : Array (Int × Value)) (ep : Nat) (t : SetTable), h.get? a = some o ∧ o.ExactSet ∧ o.data = .set es ep t ∧ ElemsOf knd es.toList ∧ (∀ k, S k = true ↔ ∃ e, e ∈ es.toList ∧ knd.is k e.snd = true) ∧
  es.size < scanBound ∧ t.fits es.size = true ∧ es.size = n ∧ Ris t.place.toList ∧ (w.params.followText "set-order" = true ∨ t.led = true)
theorem add_tail {A : Around} {E : Value → Shared → Prop} {s : Shared} {a : Addr} {g : Bool → Sem Unit} (hg : ∀ (b : Bool) (s₁ : Shared) (Q' : Unit → Shared → Prop), Q' () s₁ → wpAny (model P w) A (g b) Q' E s₁)
    {o : Obj} {es : Array (Int × Value)} {ep : Nat} {t : SetTable} (ho : s.heap.get? a = some o) (hx : o.ExactSet) (hd : o.data = .set es ep t)
    {es1 : Array (Int × Value)} {t2 : SetTable} {S' : κ → Bool} (he : ElemsOf knd es1.toList) (hS : ∀ k, S' k = true ↔ ∃ e, e ∈ es1.toList ∧ knd.is k e.snd = true) (hb : es1.size < scanBound) (hf : t2.fits es1.size = true) (hr : Ris t2.place.toList) (hl : w.params.followText "set-order" = true ∨ t2.led = true)
    {wd : Bool} {R : Option Bool → Shared → Prop} (q : ∀ h', Heap.SameBut a s.heap h' → SetS knd h' a S' es1.size → R (some true) { s with heap := h' }) :
    wpAny (model P w) A (do
      storeSet a es1 t2
      if (!wd && t2.tooFull) = true then do
        g (relayAll t2 es1 (SetTable.grown es1.size)).snd.snd
        storeSet a (relayAll t2 es1 (SetTable.grown es1.size)).fst (relayAll t2 es1 (SetTable.grown es1.size)).snd.fst
        pure (some true)
      else pure (some true)) R E s := by
  have st := store_at (es' := es1) (t' := t2) ho hd
  refine wpAny_bind (wpAny_storeSet_of ho hd ?_ (fits_of_scanBound hb))
  by_cases hc : (!wd && t2.tooFull) = true
  · rw [if_pos hc]
    refine wpAny_bind (hg _ _ _ ?_)
    have pm := relayAll_perm t2 es1 (SetTable.grown es1.size)
    have ff := relayAll_fits t2 es1 (SetTable.grown es1.size)
    have rr := relayAll_ris t2 es1 (SetTable.grown es1.size)
    have ll := relayAll_led t2 es1 (SetTable.grown es1.size)
    generalize relayAll t2 es1 (SetTable.grown es1.size) = r at pm ff rr ll
    have hz : r.1.size = es1.size := by
      have := pm.length_eq
      simpa using this
    refine wpAny_bind (wpAny_storeSet_of (s := { s with heap := s.heap.update a (Obj.putSet es1 t2) }) st rfl ?_ (fits_of_scanBound (by rw [hz]; exact hb)))
    have st2 := store_at (es' := r.1) (t' := r.2.1) st rfl
    refine wpAny_pure (q _ (Heap.SameBut.trans (Heap.SameBut.update s.heap a (Obj.putSet es1 t2)) (Heap.SameBut.update _ a (Obj.putSet r.1 r.2.1))) ⟨_, r.1, _, r.2.1, st2, hx, rfl, he.perm pm, fun k => (hS k).trans ⟨fun ⟨e, h1, h2⟩ => ⟨e, pm.mem_iff.mpr h1, h2⟩, fun ⟨e, h1, h2⟩ => ⟨e, pm.mem_iff.mp h1, h2⟩⟩, by rw [hz]; exact hb, ff, hz, rr, by rw [ll]; exact hl⟩)
  · rw [if_neg hc]
    exact wpAny_pure (q _ (Heap.SameBut.update s.heap a (Obj.putSet es1 t2)) ⟨_, es1, _, t2, st, hx, rfl, he, hS, hb, hf, rfl, hr, hl⟩)
theorem add_hashed {A : Around} {E : Value → Shared → Prop} {s : Shared} {a : Addr} {S : κ → Bool} {n : Nat} {k : κ} {x : Value} {Q : Bool → Shared → Prop} (hk : knd.is k x = true) (hsx : x.scannable = true) (H : SetS knd s.heap a S n) (hb : n + 1 < scanBound)
    (q : ∀ h', Heap.SameBut a s.heap h' → SetS knd h' a (fun k' => S k' || decide (k' = k)) (if S k = true then n else n + 1) → Q (!S k) { s with heap := h' }) : wpAny (model P w) A (setAddHashed a x (knd.hash k)) Q E s := by
  obtain ⟨o, es, ep, t, ho, hx, hd, he, hS, hb2, hf, hn, hr, hl⟩ := H
  subst hn
  show wpAny _ _ (holding [x] (setAddHashedIn a x (knd.hash k) 100000)) Q E s
  refine wpAny_holding ?_
  rw [setAddHashedIn.eq_def]
  dsimp only
  refine wpAny_bind (wpAny_setState_of ho hd hf ?_)
  dsimp only
  rw [if_pos (byScan_of hsx hb2 he)]
  refine wpAny_bind ?_
  unfold setAddByScan
  refine wpAny_bind (wpAny_rule ?_)
  refine wpAny_bind (wpAny_setScan_of hk ho hd hf he ?_)
  cases hfi : List.findIdx? (fun e => knd.is k e.snd) es.toList with
  | some j =>
    dsimp only
    have hSk : S k = true := by
      obtain ⟨hj, h1, _⟩ := List.findIdx?_eq_some_iff_getElem.mp hfi
      exact (hS k).mpr ⟨_, List.getElem_mem hj, h1⟩
    refine wpAny_pure ?_
    dsimp only
    refine wpAny_pure ?_
    have q := q s.heap (Heap.SameBut.refl _ _)
    rw [if_pos hSk, hSk] at q
    refine q ⟨o, es, ep, t, ho, hx, hd, he, fun k' => ?_, hb2, hf, rfl, hr, hl⟩
    rw [← hS k', Bool.or_eq_true, decide_eq_true_iff]
    exact ⟨fun h => h.elim id fun e => by rw [e]; exact hSk, .inl⟩
  | none =>
    dsimp only
    have hSk : S k = false := by
      cases e : S k with
      | false => rfl
      | true =>
        obtain ⟨y, h1, h2⟩ := (hS k).mp e
        have := List.findIdx?_eq_none_iff.mp hfi y h1
        rw [h2] at this
        cases this
    have pm := layNew_perm t es (knd.hash k) x
    have ff := layNew_fits t es (knd.hash k) x
    have rr := layNew_ris t es (knd.hash k) x hr
    have ll := layNew_led t es (knd.hash k) x
    generalize layNew t es (knd.hash k) x = r at pm ff rr ll
    obtain ⟨es1, t1, wd, gv⟩ := r
    dsimp only at pm ff rr ll ⊢
    have e1 : ElemsOf knd es1.toList := (he.push hk hsx).perm (by rw [Array.toList_push] at pm; exact pm)
    have m1 := mem_push_iff hk hS (l' := es1.toList) (by rw [Array.toList_push] at pm; exact pm)
    have z1 : es1.size = es.size + 1 := by
      have := pm.length_eq
      simpa using this
    have q1 : ∀ h', Heap.SameBut a s.heap h' → SetS knd h' a (fun k' => S k' || decide (k' = k)) es1.size → Q true { s with heap := h' } := fun h' g1 g2 => by
      have q := q h' g1
      rw [hSk, if_neg Bool.false_ne_true, ← z1] at q
      exact q g2
    have hb1 : es1.size < scanBound := by rw [z1]; exact hb
    refine wpAny_bind ?_
    cases gv
    all_goals first | refine wpAny_pure ?_ | refine wpAny_rule ?_
    all_goals
      have gw : ∀ b : Bool, (if b = true then t1 else { t1 with plain := false }).fits es1.size = true ∧ Ris (if b = true then t1 else { t1 with plain := false }).place.toList ∧ (w.params.followText "set-order" = true ∨ (if b = true then t1 else { t1 with plain := false }).led = true) := fun b => by
        cases b with
        | true => exact ⟨ff, rr, by rw [if_pos rfl, ll]; exact hl⟩
        | false => exact ⟨SetTable.fits_plain_off ff, rr, by rw [if_neg Bool.false_ne_true]; exact hl.imp id fun h => ll.trans h⟩
      by_cases hp : t1.plain = true
      · rw [if_pos hp]
        refine wpAny_bind ?_
        rw [hashByValue_scannable 8 hsx]
        refine wpAny_pure ?_
        obtain ⟨g1, g2, g3⟩ := gw (plainKind x)
        exact add_tail (fun b s₁ Q' h => by cases b <;> first | exact wpAny_pure h | exact wpAny_rule h) ho hx hd e1 m1 hb1 g1 g2 g3 fun h' a1 a2 => wpAny_pure (q1 h' a1 a2)
      · rw [if_neg hp]
        refine wpAny_bind ?_
        refine wpAny_pure ?_
        obtain ⟨g1, g2, g3⟩ := gw true
        exact add_tail (fun b s₁ Q' h => by cases b <;> first | exact wpAny_pure h | exact wpAny_rule h) ho hx hd e1 m1 hb1 g1 g2 g3 fun h' a1 a2 => wpAny_pure (q1 h' a1 a2)
end SO
end Fx

namespace Fx
open PySem PySem.Spec PyProof.Rows L2
namespace SO
theorem code_set_led1 {P : Program} {w : World} {A : Around} {E : Value → Shared → Prop} {s : Shared} (a : Value) {Q₁ : Value → Shared → Prop}
    (h : Q₁ (.ref s.heap.objs.size) { s with heap := s.heap.push { cls := .type "set", data := .set #[] 0 (.fresh 0 0 (!w.params.followText "set-order")) } }) :
    codeAny (model P w) A (.call (.builtin "set.__new__") ⟨[.type "set", a], []⟩) (wants Q₁ E) s := by
  refine codeAny_call_builtin_at (plainId_quiet PySem.F.plain_set_new _) PySem.F.entry_set_new (wpAny_of_eq (PySem.F.newCall_set_1 a) ?_)
  rw [Around.under_plainId PySem.F.plain_set_new _]
  show wpAny _ A.in1 (Builtin.Frozenset.newClass "set" ⟨[.type "set", a], []⟩ >>= fun x => newSet x.fst >>= fun y => ret y) _ _ s
  refine wpAny_bind ?_
  unfold Builtin.Frozenset.newClass
  dsimp only
  refine wpAny_bind (wpAny_of_eq (show isType (.type "set") = pure true from rfl) ?_)
  rw [if_neg (by decide)]
  refine wpAny_bind (wpAny_of_eq sub_set_self ?_)
  rw [if_neg (by decide)]
  refine wpAny_pure ?_
  refine wpAny_bind ?_
  unfold newSet
  refine wpAny_bind (wpAny_byText ?_)
  dsimp only
  unfold newObj
  dsimp only
  rw [if_neg (by decide)]
  unfold newObjAsIs
  refine wpAny_bind (wpAny_alloc ?_)
  dsimp only
  refine wpAny_pure ?_
  exact wpAny_pure h
theorem setS_congr {P : Program} {w : World} {κ : Type} [DecidableEq κ] {knd : KeyKind P w κ} {h : Heap} {a : Addr} {S S' : κ → Bool} {n n' : Nat} (H : SetS knd h a S n) (e : ∀ k, S k = S' k) (e2 : n = n') : SetS knd h a S' n' := by
  obtain ⟨o, es, ep, t, h1, h2, h3, h4, h5, h6⟩ := H
  subst e2
  exact ⟨o, es, ep, t, h1, h2, h3, h4, fun k => by rw [← e k]; exact h5 k, h6⟩
theorem setS_fresh {P : Program} {w : World} {κ : Type} [DecidableEq κ] {knd : KeyKind P w κ} {h : Heap} {a : Addr} {led : Bool} (ho : h.get? a = some { cls := .type "set", data := .set #[] 0 (.fresh 0 0 led) }) (hl : led = (!w.params.followText "set-order")) : SetS knd h a (fun _ => false) 0 := by
  refine ⟨_, _, _, _, ho, ?_, rfl, ?_, ?_, by unfold scanBound; decide, ?_, rfl, ?_, ?_⟩
  · exact ⟨rfl, rfl, rfl⟩
  · intro e he; simp at he
  · exact fun k => ⟨nofun, fun ⟨e, he, _⟩ => by simp at he⟩
  · first | rfl | decide
  · exact List.Pairwise.nil
  · rw [hl]
    cases w.params.followText "set-order" with
    | true => exact .inl rfl
    | false => exact .inr rfl
end SO
end Fx
namespace Fx.SS
open PySem PySem.Spec PyProof.Rows
section
variable {prog : Program} {w : World} {A : Around} {R : Result → Shared → Prop} {I : Addr} {fp wr : List Addr} {G : Array GenState → Array GenState → Prop} {n : Nat} {P : Nat → Value → Prop} {St : Nat → Shared → Prop}
theorem loop_ord (W : WalksS prog w A.in1 I fp wr G n P St) (S : Addr) (hSf : S ∉ fp) (key : Nat → Str) (hb : n + 1 < scanBound) (hval : ∀ i v, P i v → ∃ t, v = .str (key i) t) :
    ∀ (k i : Nat) (s : Shared), n - i = k → i ≤ n → St i s → SO.SetS (PySem.strKind prog w) s.heap S (fun q => (met key i).any (· == q)) (met key i).length →
      (∀ s', Moved (S :: wr) G s s' → SO.SetS (PySem.strKind prog w) s'.heap S (fun q => (met key n).any (· == q)) (met key n).length → R (.ok (.ret .none)) s') →
      codeAny (model prog w) A (.builtin "set.update.loop" ⟨[.ref S, .ref I], []⟩) R s := by
  have out : S ∉ wr := fun h => hSf (W.sub _ h)
  have old : ∀ {b}, b ∈ wr → b ∈ S :: wr := fun h => List.mem_cons_of_mem _ h
  have moves : ∀ {s s' : Shared} {S' : Str → Bool} {m : Nat}, Moved wr G s s' → SO.SetS (PySem.strKind prog w) s.heap S S' m → SO.SetS (PySem.strKind prog w) s'.heap S S' m := fun hm ⟨o, es, ep, t, ho, rest⟩ => ⟨o, es, ep, t, hm.heap S _ out ho, rest⟩
  intro k
  induction k with
  | zero =>
    intro i s hk hi st hS q
    obtain rfl : i = n := by omega
    refine codeAny_builtin PyProof.Rows.F.entry_set_update_loop ?_
    rw [Around.under_plainId PyProof.Rows.F.plain_set_update_loop _]
    exact wpAny_bind (W.done s _ _ st fun s' hm => wpAny_pure (q s' (hm.mono fun b hb => old hb) (moves hm hS)))
  | succ k ih =>
    intro i s hk hi st hS q
    have lt : i < n := by omega
    have room : (met key i).length + 1 < scanBound := by have := met_len key i; omega
    refine codeAny_builtin PyProof.Rows.F.entry_set_update_loop ?_
    rw [Around.under_plainId PyProof.Rows.F.plain_set_update_loop _]
    refine wpAny_bind (W.item i s _ _ lt st fun v s' hP st' hm => ?_)
    obtain ⟨t, rfl⟩ := hval i v hP
    show wpAny _ A.in1 (holding [Value.str (key i) t] (setAdd S (.str (key i) t)) >>= _) _ _ s'
    unfold setAdd
    refine wpAny_bind (wpAny_holding (wpAny_holding (wpAny_bind ((PySem.strKind prog w).pyHash (k := key i) (strKind_is _ _ _ _) ?_))))
    have hS1 := moves hm hS
    refine SO.add_hashed (knd := PySem.strKind prog w) (s := { s' with toks := s'.toks + 1 }) (strKind_is _ _ _ _) rfl hS1 room fun h' same hS2 => ?_
    have hS3 : SO.SetS (PySem.strKind prog w) h' S (fun q => (met key (i + 1)).any (· == q)) (met key (i + 1)).length := by
      refine SO.setS_congr hS2 (fun q => ?_) ?_
      · show _ = (if (met key i).any (· == key i) then met key i else met key i ++ [key i]).any (· == q)
        split
        · rename_i c
          by_cases e : q = key i
          · rw [e, c]; rfl
          · simp [e]
        · rw [List.any_append]
          congr 1
          by_cases e : q = key i
          · subst e; simp
          · have e' : (key i == q) = false := beq_eq_false_iff_ne.mpr fun h => e h.symm
            simp [e, e']
      · show _ = (if (met key i).any (· == key i) then met key i else met key i ++ [key i]).length
        split
        · rfl
        · rw [List.length_append, List.length_singleton]
    refine wpAny_pure ⟨plainId_quiet PyProof.Rows.F.plain_set_update_loop _, ih (i + 1) _ (by omega) lt (W.frame _ s' _ _ st' (Nat.le_succ _) fun b hb o e => (same.2 b fun h : b = S => hSf (by rw [← h]; exact hb)).trans e) hS3 fun s2 hm2 hS4 => ?_⟩
    exact q s2 (Moved.trans W.gtrans ((hm.mono fun b hb => old hb).then_heap (Nat.le_succ _) fun b o hb e => (same.2 b fun h : b = S => hb (by rw [h]; exact List.mem_cons_self)).trans e) hm2) hS4
end
section
variable {prog : Program} {w : World} {A : Around} {E : Value → Shared → Prop} {s : Shared}
theorem call_set_ord {l : Addr} {items : Array Value} {key : Nat → Str} {Q : Value → Shared → Prop} (hh : A.handled = none) (hl : s.heap.IsList l items) (hv : ∀ (i : Nat) (v : Value), items[i]? = some v → ∃ t, v = .str (key i) t) (hb : items.size + 1 < scanBound)
    (q : ∀ (h' : Heap) (tk : Nat), SO.SetS (PySem.strKind prog w) h' s.heap.objs.size (fun k => (met key items.size).any (· == k)) (met key items.size).length → (∀ b o, b < s.heap.objs.size → s.heap.get? b = some o → h'.get? b = some o) → Q (.ref s.heap.objs.size) { s with heap := h', toks := tk }) :
    wpAny (model prog w) A (call (.type "set") [.ref l]) Q E s := by
  let S0 (led : Bool) : Obj := { cls := .type "set", dict := none, data := .set #[] 0 (.fresh 0 0 led) }
  obtain ⟨c, tl, hmro⟩ := PySem.F.called_set.mro
  have g1 := PySem.F.called_set.made
  have g2 := PySem.F.called_set.sub
  have g3 := PySem.F.called_set.notType
  have g4 := PySem.F.called_set.canCreate
  have g5 := PySem.F.typeCall_set_1 (.ref l)
  refine wpAny_call (codeAny_of_tree (wpAny_pure ⟨Code.quiet_builtin _ (by decide +kernel), codeAny_builtin PySem.F.entry_type_call ?_⟩))
  rw [Around.under_plain (weight_type_call_type "set" [.ref l] []) rfl]
  repeat (any_goals (first | assumption | wp_step))
  refine codeAny_mono (SO.code_set_led1 (.ref l) (E := E) (Q₁ := fun obj s₁ => ∃ led : Bool, led = (!w.params.followText "set-order") ∧ obj = .ref s.heap.objs.size ∧ s₁ = { s with heap := s.heap.push (S0 led) }) ⟨_, rfl, rfl, rfl⟩) fun r s₁ hr => ?_
  cases r with
  | error e => exact hr
  | ok fl =>
    cases fl with
    | ret obj =>
      obtain ⟨led, hled, rfl, rfl⟩ := hr
      have at0 : (s.heap.push (S0 led)).get? s.heap.objs.size = some (S0 led) := Heap.get?_push_size _ rfl
      have ty0 : Shared.TypeIs { s with heap := s.heap.push (S0 led) } (.ref s.heap.objs.size) "set" := ⟨_, at0, rfl⟩
      have g6 := PySem.F.called_set.init.lookup
      have g7 := PySem.F.called_set.init.bind (.ref s.heap.objs.size)
      repeat (any_goals (first | assumption | wp_step))
      refine codeAny_mono (codeAny_call_builtin (R := wants (fun r s₂ => r = .none ∧ ∃ h' tk, s₂ = { s with heap := h', toks := tk } ∧ SO.SetS (PySem.strKind prog w) h' s.heap.objs.size (fun k => (met key items.size).any (· == k)) (met key items.size).length ∧
          (∀ b o, b < s.heap.objs.size → s.heap.get? b = some o → h'.get? b = some o)) E) PySem.F.called_set.init.plain PySem.F.entry_set_init (check_set_init_1 ty0 ?_)) fun r₂ s₂ hr₂ => ?_
      · obtain ⟨⟨ocls, odict, odata, oslots⟩, hol, hcl, nl, hdl⟩ := hl
        simp only at hcl hdl
        subst hcl; subst hdl
        have hol' : (s.heap.push (S0 led)).get? l = some { cls := .type "list", dict := odict, data := .seq items nl, slots := oslots } := Heap.get?_push_of_some _ hol
        have hl1 : (s.heap.push (S0 led)).IsList l items := ⟨_, hol', rfl, nl, rfl⟩
        have g8 := PySem.F.sub_list_set
        have g9 := PySem.F.sub_list_frozenset
        have g10 : (Value.type "list" == Value.type "dict") = false := by decide
        have lt := Heap.lt_size hol
        have hh3 : A.in1.in1.in1.handled = none := by simp [hh]
        have e1 : (s.heap.push (S0 led)).objs.size = s.heap.objs.size + 1 := Heap.size_push ..
        unfold Builtin.«set.__init__» noKeywords Builtin.Frozenset.updateFrom
        generalize hPI : pyIter = PI
        wp_walk
        subst hPI
        refine wpAny_pyIter_list hl1 (wpAny_bind (wpAny_runValue ?_))
        refine loop_ord ((Walks.list hh3 _ l (by rw [e1]; exact Nat.ne_of_lt (Nat.lt_succ_of_lt lt)) items).toS) s.heap.objs.size (by rw [e1]; simp only [List.mem_cons, List.mem_singleton, List.not_mem_nil, or_false, not_or]; exact ⟨Nat.ne_of_lt (Nat.lt_succ_self _), Nat.ne_of_gt lt⟩) key hb hv (items.size - 0) 0 _ (by omega) (Nat.zero_le _) ⟨⟨_, Heap.get?_push_size _ rfl, rfl, rfl⟩, (hl1.push _)⟩ ?_ ?_
        · exact SO.setS_congr (SO.setS_fresh (Heap.get?_push_of_some _ at0) hled) (fun _ => rfl) rfl
        · intro ⟨h', g', d', tk', os'⟩ hm hS
          obtain rfl : g' = s.gens := hm.gens
          obtain rfl : d' = s.drawn := hm.drawn
          obtain rfl : os' = s.os := hm.os
          refine wpAny_pure ?_
          show wpAny _ _ (ret Value.none) _ _ _
          refine wpAny_pure ⟨rfl, h', tk', rfl, hS, fun b o hlt e => hm.heap b o ?_ (Heap.get?_push_of_some _ (Heap.get?_push_of_some _ e))⟩
          rw [e1]
          simp only [List.mem_cons, List.mem_singleton, List.not_mem_nil, or_false, not_or]
          exact ⟨Nat.ne_of_lt hlt, Nat.ne_of_lt (Nat.lt_succ_of_lt hlt)⟩
      · cases r₂ with
        | error e => exact hr₂
        | ok fl₂ =>
          cases fl₂ with
          | ret r =>
            obtain ⟨rfl, h', tk, rfl, hS, hk⟩ := hr₂
            repeat (any_goals (first | assumption | wp_step))
            exact q _ _ hS hk
          | _ => exact hr₂.elim
    | _ => exact hr.elim
end
end Fx.SS

namespace Fx
open PySem PySem.Spec PyProof.Rows L2 Evl Lk
namespace SO
theorem strs_ofE {P : Program} {w : World} : ∀ (vs : List Value), (∀ v ∈ vs, ∃ k : Str, Value.isStrOf k v = true) → ∃ ks, StrsAre vs ks
  | [], _ => ⟨[], .nil⟩
  | v :: vs, h => by
    obtain ⟨ks, hk⟩ := strs_ofE (P := P) (w := w) vs fun x hx => h x (List.mem_cons_of_mem _ hx)
    obtain ⟨k, e⟩ := h v (List.mem_cons_self ..)
    obtain ⟨t, rfl⟩ := Value.isStrOf_shape e
    exact ⟨k :: ks, .cons k t hk⟩
theorem strs_mem : ∀ {vs : List Value} {ks : List Str}, StrsAre vs ks → ∀ k, k ∈ ks ↔ ∃ v ∈ vs, Value.isStrOf k v = true
  | _, _, .nil, k => ⟨nofun, fun ⟨_, h, _⟩ => nomatch h⟩
  | _, _, .cons y t h, k => by
    have ih := strs_mem h k
    rw [List.mem_cons, ih]
    constructor
    · rintro (rfl | ⟨v, h1, h2⟩)
      · exact ⟨_, List.mem_cons_self .., beq_self_eq_true _⟩
      · exact ⟨v, List.mem_cons_of_mem _ h1, h2⟩
    · rintro ⟨v, h1, h2⟩
      rcases List.mem_cons.mp h1 with rfl | h1
      · exact .inl (eq_of_beq (show (y == k) = true from h2)).symm
      · exact .inr ⟨v, h1, h2⟩
theorem strs_len : ∀ {vs : List Value} {ks : List Str}, StrsAre vs ks → vs.length = ks.length
  | _, _, .nil => rfl
  | _, _, .cons _ _ h => by rw [List.length_cons, List.length_cons, strs_len h]
theorem sorted_ord {P : Program} {w : World} {A : Around} {E : Value → Shared → Prop} {s : Shared} {a : Addr} {S : Str → Bool} {n : Nat} {Q : Value → Shared → Prop} (H : SetS (PySem.strKind P w) s.heap a S n) (hh : A.handled = none) (hn : n < 64)
    (q : ∀ (s' : Shared) (p : Nat) (out : Array Value) (c : Nat) (ys : List Str), (∀ b o, s.heap.get? b = some o → s'.heap.get? b = some o) → s'.gens = s.gens → s'.os = s.os → s.heap.objs.size ≤ p → s'.heap.get? p = some (seqObj "list" out c) → StrsAre out.toList ys → sortedS ys = true → (∀ k, k ∈ ys ↔ S k = true) → ys.length = n → Q (.ref p) s') :
    wpAny (model P w) A (call (.builtin "sorted") [.ref a]) Q E s := by
  obtain ⟨o, es, ep, t, ho, hx, hd, he, hS, hb, hf, hz, hr, hl⟩ := H
  refine Calls.call_function_entry kind_sorted plain_sorted entry_sorted (args_sorted1 _) ?_
  unfold Builtin.sorted
  refine wpAny_bind (wpAny_of_eq (show checkCount "sorted" 1 1 [Value.ref a].length = pure () from rfl) ?_)
  refine wpAny_bind (collect_set (by simp [hh]) ⟨o, ho, hx.1, hd⟩ hf hb hr hl fun s1 out k1 z1 g1 o1 pm => ?_)
  have hk : ∀ v ∈ out, ∃ k : Str, Value.isStrOf k v = true := fun v hv => by
    obtain ⟨e, h1, rfl⟩ := List.mem_map.mp (pm.mem_iff.mp hv)
    obtain ⟨⟨k, h2, _⟩, _⟩ := he e h1
    exact ⟨k, h2⟩
  obtain ⟨ks, sk⟩ := strs_ofE (P := P) (w := w) out hk
  have lo : out.length = n := by rw [pm.length_eq, List.length_map, ← hz]; simp
  have mem : ∀ k, k ∈ ks ↔ S k = true := fun k => by
    rw [strs_mem sk k, hS k]
    constructor
    · rintro ⟨v, h1, h2⟩
      obtain ⟨e, h3, rfl⟩ := List.mem_map.mp (pm.mem_iff.mp h1)
      exact ⟨e, h3, h2⟩
    · rintro ⟨e, h1, h2⟩
      exact ⟨e.2, pm.mem_iff.mpr (List.mem_map.mpr ⟨e, h1, rfl⟩), h2⟩
  refine wpAny_bind (wpAny_newList ?_ (by rw [lo]; exact Nat.le_trans (Nat.le_of_lt hn) (Nat.le_of_ble_eq_true rfl)))
  have at0 : (s1.heap.push (seqObj "list" out.toArray 0)).get? s1.heap.objs.size = some (seqObj "list" out.toArray 0) := Heap.get?_push_size _ rfl
  refine wpAny_bind (wpAny_holding ?_)
  refine wpAny_call_entry (T := "list") slot_list_sort ⟨_, at0, rfl⟩ entry_list_sort ?_ (args_list_sort _)
  refine list_sort_treeK strKind_oneLt at0 sk.keysOf (fun v₁ v₂ rest e => keyKind_strs (ss := ks) (by rw [← e]; exact sk)) (by rw [lo]; exact hn) fun st' pm2 sd => ⟨_, rfl, ?_⟩
  obtain ⟨ys, sy, py, so⟩ := sorted_out_str sk pm2 sd
  refine wpAny_pure ⟨_, rfl, ?_⟩
  obtain ⟨c, hc⟩ := sortedHeap_at (out := Array.map (fun x => x.snd) (arrOf st')) at0
  refine q _ s1.heap.objs.size _ c ys (fun b u hb => ?_) g1 o1 z1 hc sy so (fun k => py.mem_iff.trans (mem k)) (by rw [py.length_eq, ← strs_len sk, lo])
  have hb1 := k1 b u hb
  have lt := Heap.lt_size hb1
  show (sortedHeap _ _ _ _).get? b = some u
  rw [sortedHeap_old (Nat.ne_of_lt lt) (by rw [size_push']; exact Nat.lt_succ_of_lt lt)]
  exact Heap.get?_push_of_some _ hb1
end SO
end Fx

namespace Fx
open PySem PySem.Spec PyProof.Rows L2 Evl Lk
/-! ### lists of texts, each once -/
namespace SO
theorem nodup_le {l m : List Str} : l.Nodup → (∀ x ∈ l, x ∈ m) → l.length ≤ m.length := by
  induction l generalizing m with
  | nil => intros; exact Nat.zero_le _
  | cons x l ih =>
    intro nd h
    obtain ⟨hx, nd⟩ := List.nodup_cons.mp nd
    have hm := h x (List.mem_cons_self ..)
    have i := ih (m := m.erase x) nd fun y hy => (List.mem_erase_of_ne (fun e => hx (by rw [← e]; exact hy))).mpr (h y (List.mem_cons_of_mem _ hy))
    rw [List.length_erase_of_mem hm] at i
    have := List.length_pos_of_mem hm
    rw [List.length_cons]
    omega
theorem nodup_of_len {l m : List Str} : l.Nodup → (∀ x ∈ l, x ∈ m) → m.length ≤ l.length → m.Nodup := by
  induction l generalizing m with
  | nil =>
    intro _ _ h
    rw [List.eq_nil_of_length_eq_zero (Nat.le_zero.mp h)]
    exact List.nodup_nil
  | cons x l ih =>
    intro nd h hl
    obtain ⟨hx, nd'⟩ := List.nodup_cons.mp nd
    have hm := h x (List.mem_cons_self ..)
    have sub : ∀ y ∈ l, y ∈ m.erase x := fun y hy => (List.mem_erase_of_ne (fun e => hx (by rw [← e]; exact hy))).mpr (h y (List.mem_cons_of_mem _ hy))
    have hp := List.length_pos_of_mem hm
    have le : (m.erase x).length ≤ l.length := by rw [List.length_erase_of_mem hm]; rw [List.length_cons] at hl; omega
    have i := ih nd' sub le
    have no : x ∉ m.erase x := fun hx2 => by
      have := nodup_le (m := m.erase x) nd fun y hy => by
        rcases List.mem_cons.mp hy with rfl | hy
        · exact hx2
        · exact sub y hy
      rw [List.length_cons] at this
      omega
    exact (List.perm_cons_erase hm).nodup_iff.mpr (List.nodup_cons.mpr ⟨no, i⟩)
theorem met_mem {key : Nat → Str} : ∀ (i : Nat) (x : Str), x ∈ SS.met key i → ∃ j, j < i ∧ x = key j
  | 0, x, h => by cases h
  | i + 1, x, h => by
    unfold SS.met at h
    split at h
    · obtain ⟨j, h1, h2⟩ := met_mem i x h
      exact ⟨j, by omega, h2⟩
    · rcases List.mem_append.mp h with h | h
      · obtain ⟨j, h1, h2⟩ := met_mem i x h
        exact ⟨j, by omega, h2⟩
      · exact ⟨i, by omega, List.mem_singleton.mp h⟩
theorem mem_met {key : Nat → Str} : ∀ (i j : Nat), j < i → key j ∈ SS.met key i
  | i + 1, j, h => by
    unfold SS.met
    rcases Nat.lt_or_ge j i with l | l
    · have := mem_met (key := key) i j l
      split
      · exact this
      · exact List.mem_append_left _ this
    · obtain rfl : j = i := by omega
      split
      · rename_i h2
        obtain ⟨a, ha, e⟩ := List.any_eq_true.mp h2
        rw [← eq_of_beq e]
        exact ha
      · exact List.mem_append_right _ (List.mem_singleton.mpr rfl)
theorem met_nodup {key : Nat → Str} : ∀ i : Nat, (SS.met key i).Nodup
  | 0 => List.nodup_nil
  | i + 1 => by
    unfold SS.met
    split
    · exact met_nodup i
    · rename_i h
      refine List.nodup_append.mpr ⟨met_nodup i, List.pairwise_singleton _ _, fun a ha b hb e => h ?_⟩
      rw [List.mem_singleton.mp hb] at e
      subst e
      exact List.any_eq_true.mpr ⟨_, ha, beq_self_eq_true _⟩
theorem met_iff {xs : List Str} {k : Str} : k ∈ SS.met (fun i => xs.getD i Str.empty) xs.length ↔ k ∈ xs := by
  constructor
  · intro h
    obtain ⟨j, h1, rfl⟩ := met_mem _ _ h
    rw [List.getD_eq_getElem?_getD, List.getElem?_eq_getElem h1]
    exact List.getElem_mem h1
  · intro h
    obtain ⟨j, h1, rfl⟩ := List.getElem_of_mem h
    have := mem_met (key := fun i => xs.getD i Str.empty) xs.length j h1
    rw [List.getD_eq_getElem?_getD, List.getElem?_eq_getElem h1] at this
    exact this
end SO
/-! ### sorted(set(xs)), xs a list of texts -/
def tSortedSets (K : PySem.W.Frag) (ta : TE) : TE := fun σ H Q => ta σ H fun x H1 => ∃ l, ∃ xs : List Str, x = .ref l ∧ SqL K H1 l (xs.map V.str) ∧ dst xs < 64 ∧ xs.length ≤ 4000 ∧ ∀ (ys : List Str) (p : Addr), ys.Nodup → sortedS ys = true → (∀ y, y ∈ ys ↔ y ∈ xs) → H1 p = none → Q (.ref p) (upd H1 p (.lst (ys.map V.str)))
section
variable {X : Cx} {G : Gx} {w : WE}
theorem pe_sortedSets {a : Expr} {ta : TE} {p p2 q pos : Pos} (hc : X.calm = true) (hg : Gl X "sorted") (hm : X.mg "sorted" = none) (hg2 : Gl X "set") (hm2 : X.mg "set" = none) (ha : PE X a ta)
    (na : starEach [a] X.env = (false, eval a X.env) :: starEach [] X.env := by rfl) : PE X (.Call (.Name "sorted" p) [.Call (.Name "set" p2) [a] [] q] [] pos) (tSortedSets X.K ta) := by
  refine ⟨fun pins s σ H Q I h => ?_⟩
  refine Call_ (ld_blt I hg hm boot_sorted ?_)
  refine PyProof.Rows.callWith_builtin1 (PyProof.Rows.args_cons ?_ rfl) rfl rfl
  refine Call_ (ld_blt I hg2 hm2 boot_set ?_)
  refine PyProof.Rows.callWith_type1 (PyProof.Rows.args_cons (thn (ha.run pins s σ H _ I h) fun v s1 ⟨x, H1, I1, r1, q1⟩ => PyProof.Rows.args_nil ?_) na) na rfl
  obtain ⟨l, xs, rfl, hq, h1, h2, q1⟩ := q1
  cases r1
  obtain ⟨its, r, pl, hz⟩ := I1.list hq
  have sa : StrsAre its xs := strsAre_of r
  have hl : its.toArray.size = xs.length := by rw [List.size_toArray, ← r.length, List.length_map]
  refine SS.call_set_ord (key := fun i => xs.getD i Str.empty) (I1.ok.hd hc) pl.isList (fun i v hv => SS.strs_at sa i v (by simpa using hv)) (by rw [hl]; unfold scanBound; omega) fun h' tk hS hk => ?_
  refine PyProof.Rows.args_nil ?_
  rw [hl] at hS
  have I2 : Inv X pins σ H1 { s1 with heap := h', toks := tk } := I1.kept fun b o e => hk b o (Heap.lt_size e) e
  refine SO.sorted_ord (s := { s1 with heap := h', toks := tk }) hS (I1.ok.hd hc) h1 fun s' p out c ys k g o z hp sy so mem len => ?_
  have fresh : H1 p = none := I2.hok.fresh z
  have nd : ys.Nodup := SO.nodup_of_len (SO.met_nodup _) (fun y hy => (mem y).mpr (List.any_eq_true.mpr ⟨y, hy, beq_self_eq_true _⟩)) (Nat.le_of_eq len)
  have mm : ∀ y, y ∈ ys ↔ y ∈ xs := fun y => (mem y).trans (Iff.trans ⟨fun h => by
    obtain ⟨z, h1, h2⟩ := List.any_eq_true.mp h
    rw [← eq_of_beq h2]
    exact h1, fun h => List.any_eq_true.mpr ⟨y, h, beq_self_eq_true _⟩⟩ SO.met_iff)
  obtain ⟨h2', g2, d2, t2, o2⟩ := s'
  dsimp only at g o hp k z
  subst g o
  refine ⟨.ref p, _, ?_, rfl, q1 ys p nd so mm fresh⟩
  have ob : ObjOk X.prog X.w (upd H1 p (.lst (ys.map V.str))) h2' p (.lst (ys.map V.str)) := ⟨by rw [List.length_map, len]; exact Nat.le_trans (Nat.le_of_lt h1) (Nat.le_of_ble_eq_true rfl), out.toList, c, vals_of_strs sy, hp⟩
  exact Inv.call (s := { s1 with heap := h', toks := tk }) (ch := []) I2 (Un.laid k z fresh) (I2.hok.laid k z ob) I2.bare fun b hb => nomatch hb
def wSortedSets (w : WE) : WE := fun env Q => w env fun r e => ∃ xs : List Str, r = .f (.lst (xs.map D.str)) ∧ dst xs < 64 ∧ xs.length ≤ 4000 ∧ ∀ ys : List Str, ys.Nodup → sortedS ys = true → (∀ y, y ∈ ys ↔ y ∈ xs) → Q (.f (.lst (ys.map D.str))) e
theorem ge_sortedSets {a : Expr} {p p2 q pos : Pos} (hc : X.calm = true) (hg : Gl X "sorted") (hm : X.mg "sorted" = none) (hg2 : Gl X "set") (hm2 : X.mg "set" = none) (ha : GE X G a w) (hK : X.K = G.K := by rfl)
    (na : starEach [a] X.env = (false, eval a X.env) :: starEach [] X.env := by rfl) : GE X G (.Call (.Name "sorted" p) [.Call (.Name "set" p2) [a] [] q] [] pos) (wSortedSets w) := by
  refine ⟨pe_imp (pe_sortedSets hc hg hm hg2 hm2 ha.pe na) fun σ H Q ⟨T, env, F, r, q⟩ => ⟨T, env, F, r, ha.mono _ _ _ (fun s e ⟨xs, hs, h1, h2, q⟩ x T1 H1 F1 f1 a1 z1 => ?_) q⟩, fun env Q Q' i q => ha.mono _ _ _ (fun s e ⟨xs, hs, h1, h2, q⟩ => ⟨xs, hs, h1, h2, fun ys a b c => i _ _ (q ys a b c)⟩) q⟩
  subst hs
  obtain ⟨p, vs, rfl, l, f⟩ := z1.rel.cz (d := .lst (xs.map D.str)) rfl
  rw [fz_strs f] at l
  exact ⟨p, xs, rfl, by rw [hK]; exact l, h1, h2, fun ys p2 nd so mm np => q ys nd so mm (.ref p2) T1 _ F1 [] (a1.trans r.trk (Att.ex a1.re (Ex.new np))) (res_f (fz_new_l a1.re.trk np (fzl_strs ys)))⟩
theorem x_sortedSets {env : Env} {Q : Sl → Env → Prop} (h : w env fun r e => ∃ xs : List Str, r = .f (.lst (xs.map D.str)) ∧ dst xs < 64 ∧ xs.length ≤ 4000 ∧ ∀ ys : List Str, ys.Nodup → sortedS ys = true → (∀ y, y ∈ ys ↔ y ∈ xs) → Q (.f (.lst (ys.map D.str))) e) : wSortedSets w env Q := h
end
end Fx

namespace Fx
open PySem PySem.Spec PyProof.Rows L2 Evl Lk
/-! ### a tuple, a text n times -/
section
variable {X : Cx} {G : Gx}
end
end Fx

namespace Fx
open PySem PySem.Spec PyProof.Rows L2 Evl Lk
/-! ### a list, a text any number of times -/
section
variable {X : Cx} {G : Gx}
end
end Fx

/-! an own exception class called with a keyword -/
namespace Fx
namespace KwX
open PySem PySem.Spec L2 PyProof.Rows
section
variable {M : Model} {A : Around} {E : Value → Shared → Prop} {h : Heap} {g : Array GenState} {d : Drawn} {t : Nat} {os : OsState} {nm q : Str} {C N : Addr} {bs bm bmB : List Value} {hdct : Bool} {sn : List Str} {sub : List Value} {ab : Bool} {col : Option Bool} {dd : Option Addr}
  {k0 k1 k2 k3 k5 : Option Value} {B newId initId : String}
end
end KwX
end Fx
namespace PySem
namespace RowX
open PySem.W PySem.Calls PyProof.Rows PySem.HandSPX
section
variable {prog : Program} {w : World} {A : Around} {E : Value → Shared → Prop} {R : Result → Shared → Prop} {s : Shared} {K : Frag} {mg mb : Str → Option Value} {x : Str} {C : Addr}
end
end RowX
end PySem

/-! own exceptions as values: C(text), C(n) with a row, C(row=n) -/
namespace Fx
open PySem PySem.Spec PyProof.Rows L2 Evl Lk
section
variable {X : Cx} {G : Gx} {x : Str} {C : Addr} {e : Expr} {w : WE} {ta : TE} {p p2 pos : Pos} {k : Nat}
end
end Fx

/-! what the top has written of classes that are kin -/
namespace Fx
open PySem PySem.Spec PyProof.Rows L2 Evl Lk
end Fx

/-! dicts: d[k] = v at a slot that owns a dict of values; d[k]; sorted(d) -/
namespace Fx
open PySem PySem.Spec PyProof.Rows L2 Evl Lk
/-- in its place, or at the end -/
def putP {α : Type} (kvs : List (Key × α)) (k : Key) (v : α) : List (Key × α) :=
  if (kvs.any fun kv => decide (kv.1 = k)) = true then kvs.map (fun kv => if kv.1 = k then (kv.1, v) else kv) else kvs ++ [(k, v)]
/-- a dict of values, as an owned thing, as a value -/
def dicO (l : List (Key × D)) : O := .dic (l.map (·.1)) (l.map fun p => O.f p.2)
def dicD (l : List (Key × D)) : D := .dic (l.map (·.1)) (l.map (·.2))
inductive Zp (K : PySem.W.Frag) (H : Hp) : List (Key × V) → List (Key × D) → Prop
  | nil : Zp K H [] []
  | cons {k : Key} {v : V} {d : D} {kvs : List (Key × V)} {l : List (Key × D)} : Fz K H v d → Zp K H kvs l → Zp K H ((k, v) :: kvs) ((k, d) :: l)
section
variable {K : PySem.W.Frag} {H : Hp}
theorem zp_of : ∀ {l : List (Key × D)} {vs : List V}, FzL K H vs (l.map (·.2)) → Zp K H ((l.map (·.1)).zip vs) l
  | [], _, h => by cases h; exact .nil
  | (k, d) :: l, _, h => by
    cases h with
    | cons a b => exact .cons a (zp_of b)
theorem Zp.fst {kvs : List (Key × V)} {l : List (Key × D)} (h : Zp K H kvs l) : kvs.map (·.1) = l.map (·.1) := by
  induction h with
  | nil => rfl
  | cons a b ih => rw [List.map_cons, List.map_cons, ih]
theorem Zp.snd {kvs : List (Key × V)} {l : List (Key × D)} (h : Zp K H kvs l) : FzL K H (kvs.map (·.2)) (l.map (·.2)) := by
  induction h with
  | nil => exact .nil
  | cons a b ih => exact .cons a ih
theorem Zp.any {kvs : List (Key × V)} {l : List (Key × D)} (h : Zp K H kvs l) (k : Key) : (kvs.any fun kv => decide (kv.1 = k)) = (l.any fun kv => decide (kv.1 = k)) := by
  induction h with
  | nil => rfl
  | cons a b ih => rw [List.any_cons, List.any_cons, ih]
theorem Zp.append {kvs kws : List (Key × V)} {l m : List (Key × D)} (h : Zp K H kvs l) (g : Zp K H kws m) : Zp K H (kvs ++ kws) (l ++ m) := by
  induction h with
  | nil => exact g
  | cons a b ih => exact .cons a ih
theorem Zp.put {kvs : List (Key × V)} {l : List (Key × D)} {k : Key} {v : V} {d : D} (h : Zp K H kvs l) (f : Fz K H v d) : Zp K H (putP kvs k v) (putP l k d) := by
  unfold putP
  rw [h.any k]
  by_cases c : (l.any fun kv => decide (kv.1 = k)) = true
  · rw [if_pos c, if_pos c]
    clear c
    induction h with
    | nil => exact .nil
    | cons a b ih =>
      rename_i k0 v0 d0 kvs l
      rw [List.map_cons, List.map_cons]
      by_cases e : k0 = k
      · rw [if_pos e, if_pos e]
        exact .cons f ih
      · rw [if_neg e, if_neg e]
        exact .cons a ih
  · rw [if_neg c, if_neg c]
    exact h.append (.cons f .nil)
theorem zip_self {α : Type} : ∀ l : List (Key × α), (l.map (·.1)).zip (l.map (·.2)) = l
  | [] => rfl
  | p :: l => by rw [List.map_cons, List.map_cons, List.zip_cons_cons, zip_self l]
end
section
variable {X : Cx} {G : Gx} {o i value : Expr} {wv wk : WE} {pos pos' : Pos} {j : Nat}
end
end Fx

/-! dict values: d[k], sorted(d) -/
namespace Fx
open PySem PySem.Spec PyProof.Rows L2 Evl Lk
def getP {α : Type} (l : List (Key × α)) (k : Key) : Option α := (l.find? fun kv => decide (kv.1 = k)).map (·.2)
section
variable {K : PySem.W.Frag} {H : Hp}
theorem Zp.get {kvs : List (Key × V)} {l : List (Key × D)} (h : Zp K H kvs l) {k : Key} {d : D} (e : getP l k = some d) : ∃ v, valV kvs k = some v ∧ Fz K H v d := by
  induction h with
  | nil => cases e
  | cons a b ih =>
    rename_i k0 v0 d0 kvs l
    by_cases c : k0 = k
    · have e1 : getP ((k0, d0) :: l) k = some d0 := by simp [getP, List.find?_cons, c]
      rw [e1] at e
      cases e
      exact ⟨v0, valV_pos c, a⟩
    · have e1 : getP ((k0, d0) :: l) k = getP l k := by simp [getP, List.find?_cons, c]
      rw [e1] at e
      obtain ⟨v, h1, h2⟩ := ih e
      exact ⟨v, (valV_neg c).trans h1, h2⟩
theorem fz_dicD {l : List (Key × D)} {v : V} (h : Fz K H v (dicD l)) : ∃ a kvs, v = .ref a ∧ Rd H a (.dK kvs) ∧ Zp K H kvs l := by
  have h : Fz K H v (.dic (l.map (·.1)) (l.map (·.2))) := h
  cases h with
  | dic r hl f => exact ⟨_, _, rfl, r, zp_of f⟩
end
theorem rd_un {T : Addr → Prop} {H : Hp} {a : Addr} {o : HO} (l : Rd (hid T H) a o) : Rd H a o := rd_hid l
def wDIx (w1 w2 : WE) : WE := fun env Q => w1 env fun r e => ∃ l, r = .f (dicD l) ∧ w2 e fun r2 e2 => ∃ k d, r2 = .f (dK k) ∧ getP l k = some d ∧ Q (.f d) e2
section
variable {X : Cx} {G : Gx} {o i e : Expr} {w w1 w2 : WE} {pos p : Pos}
theorem ge_dix (hu : X.A.units + 1 < cLine) (ho : GE X G o w1) (hi : GE X G i w2) (hs : NoSl i) : GE X G (.Subscript o i pos) (wDIx w1 w2) := by
  refine ⟨pe_imp (pe_dget hu ho.pe hi.pe hs) fun σ H Q ⟨T, env, F, r, q⟩ => ⟨T, env, F, r, ho.mono _ _ _ (fun s e ⟨l, hs, q⟩ x T1 H1 F1 f1 a1 z1 => ?_) q⟩, fun env Q Q' i q => ho.mono _ _ _ (fun s e ⟨l, hs, q⟩ => ⟨l, hs, hi.mono _ _ _ (fun s2 e2 ⟨k, d, h1, h2, q⟩ => ⟨k, d, h1, h2, i _ _ q⟩) q⟩) q⟩
  subst hs
  refine ⟨T1, e, F1, a1.re, hi.mono _ _ _ (fun s2 e2 ⟨k, d, h1, h2, q⟩ y T2 H2 F2 f2 a2 z2 => ?_) q⟩
  subst h1
  have ey := fz_dK z2.rel.1
  subst ey
  obtain ⟨a, kvs, rfl, rd, zp⟩ := fz_dicD (Fz.att a1.re a2 z1.rel.1)
  obtain ⟨v, g1, g2⟩ := zp.get h2
  exact ⟨a, v, rfl, .inl ⟨_, k, rd_un rd, rfl, g1.symm⟩, q _ T2 H2 F2 [] (a1.trans r.trk a2) (res_f g2)⟩
/-- sorted(d), its keys texts: an owned list -/
def wSortedD (w : WE) : WE := fun env Q => w env fun r e => ∃ (l : List (Key × D)) (xs : List Str), r = .f (dicD l) ∧ l.map (·.1) = xs.map Sum.inr ∧ xs.length < 64 ∧ ∀ ys : List Str, ys.Perm xs → sortedS ys = true → Q (.own (.lst (ys.map D.str))) e
theorem ge_sortedD (hc : X.calm = true) (hg : Gl X "sorted") (hm : X.mg "sorted" = none) (he : GE X G e w) (hst : starEach [e] X.env = (false, eval e X.env) :: starEach [] X.env := by rfl) : GE X G (.Call (.Name "sorted" p) [e] [] pos) (wSortedD w) := by
  refine ⟨pe_imp (pe_callB (call_sortedD hc) hg hm rfl (pa_cons he.pe pa_nil hst) (by decide) (by decide) hst rfl) fun σ H Q ⟨T, env, F, r, q⟩ => ?_, fun env Q Q' i q => he.mono _ _ _ (fun s e ⟨l, xs, h1, h2, h3, q⟩ => ⟨l, xs, h1, h2, h3, fun ys a b => i _ _ (q ys a b)⟩) q⟩
  refine ⟨T, env, F, r, he.mono _ _ _ (fun s e ⟨l, xs, h1, h2, h3, q⟩ x T1 H1 F1 f1 a1 z1 => ?_) q⟩
  subst h1
  obtain ⟨a, kvs, rfl, rd, zp⟩ := fz_dicD z1.rel.1
  refine ⟨a, kvs, xs, rfl, rd_un rd, zp.fst.trans h2, h3, fun ys p pm so np => ?_⟩
  exact q ys pm so _ _ _ F1 [p] (a1.trans r.trk (att_new a1.re np)) (res_trans r.trk a1 (own_new a1.re np (.lst (.inr rfl) upd_same (fzl_strs ys))))
end
end Fx

/-! {} as an owned dict; a starred element of a display -/
namespace Fx
open PySem PySem.Spec PyProof.Rows L2 Evl Lk
section
variable {X : Cx} {G : Gx}
variable {e : Expr} {es : List Expr} {w : WE} {wr : WAD} {p : Pos}
end
end Fx

/-! walks of dicts -/
namespace Fx
open PySem PySem.Spec PyProof.Rows L2 Evl Lk
theorem u1 {k : Nat} {A : Around} (hr : Room k A) : A.units + 1 < cLine := by have := hr.un; omega
section
variable {env : Env} {Q : Sl → Env → Prop} {w w1 w2 wv wk : WE} {wr : WAD} {D0 : WEnds} {i : Nat}
theorem x_dix (h : w1 env fun r e => ∃ l, r = .f (dicD l) ∧ w2 e fun r2 e2 => ∃ k d, r2 = .f (dK k) ∧ getP l k = some d ∧ Q (.f d) e2) : wDIx w1 w2 env Q := h
theorem x_dixL {l0 : List (Key × D)} {p : List (Key × D) → Prop} (h : p l0) : ∃ l, Sl.f (dicD l0) = .f (dicD l) ∧ p l := ⟨l0, rfl, h⟩
theorem x_sortedD (h : w env fun r e => ∃ (l : List (Key × D)) (xs : List Str), r = .f (dicD l) ∧ l.map (·.1) = xs.map Sum.inr ∧ xs.length < 64 ∧ ∀ ys : List Str, ys.Perm xs → sortedS ys = true → Q (.own (.lst (ys.map D.str))) e) : wSortedD w env Q := h
theorem fds_fs : ∀ l : List (Key × D), O.fds (l.map fun p => O.f p.2) = some (l.map (·.2))
  | [] => rfl
  | p :: l => by
    have h := fds_fs l
    rw [List.map_cons, List.map_cons]
    unfold O.fds
    rw [h]
    rfl
theorem cd_dicO (l : List (Key × D)) : (dicO l).cd = some (dicD l) := by
  show (O.fds _).map _ = _
  rw [fds_fs]
  rfl
end
end Fx

/-! defs that are called where no guard of repr stands -/
namespace L2
open PySem PySem.Spec PyProof.Rows
section
variable {P : Program} {w : World} {K : PySem.W.Frag} {mg : Str → Option Value} {base : Heap} {N ps : List Str} {qual : Str} {scope : Scope} {f : Addr} {A : Around} {outer : List Env} {s s1 : Shared} {H : Hp} {E : XK} {us : List Value} {vs : List V}
end
section
variable {X : Cx} {x : Str} {p pos : Pos} {k j : Nat} {sp : Sp} {e : Expr} {es : List Expr} {ta : TA}
end
end L2
namespace Fx
open PySem PySem.Spec PyProof.Rows L2 Evl Lk
/-! ### where no guard stands -/
section
variable {P : Program} {w : World} {K : PySem.W.Frag} {mg : Str → Option Value} {base : Heap} {x q : Str} {st : Stmt} {N ps : List Str} {k : Nat} {tabs : List Addr}
end
section
variable {X : Cx} {G : Gx} {e : Expr} {es : List Expr} {wd : WAD} {x : Str} {k j : Nat} {tabs : List Addr} {p pos : Pos} {W : WFn}
end
end Fx

namespace Lk
open PySem PySem.Spec PyProof.Rows L2 Evl
/-! ### the law's end, where no guard stands -/
section
variable {P : Program} {w : World} {K : PySem.W.Frag} {mg mb : Str → Option Value}
end
end Lk
namespace Fx
open PySem PySem.Spec PyProof.Rows L2 Evl Lk
end Fx

/-! repr of a dict of values -/
namespace Fx
open PySem PySem.Spec PyProof.Rows L2 Evl Lk
section
variable {X : Cx} {pins : List (Addr × Obj)} {σ : L2.St} {H : Hp} {s : Shared} {T : Addr → Prop}
end
section
variable {X : Cx} {G : Gx} {e : Expr} {w : WE} {p pos : Pos}
end
end Fx

/-! texts compared, whatever they hold -/
namespace Fx
open PySem PySem.Spec PyProof.Rows L2 Evl Lk
section
variable {X : Cx} {G : Gx}
end
end Fx

/-! str of a tuple, repr of a tuple or a list, where no guard stands -/
namespace Fx
open PySem PySem.Spec PyProof.Rows L2 Evl Lk
section
variable {X : Cx} {G : Gx}
end
end Fx

/-! k in d, k not in d, d a dict of values -/
namespace Fx
open PySem PySem.Spec PyProof.Rows L2 Evl Lk
theorem Zp.get? {K : PySem.W.Frag} {H : Hp} {kvs : List (Key × V)} {l : List (Key × D)} (h : Zp K H kvs l) (k : Key) : (valV kvs k).isSome = (getP l k).isSome := by
  induction h with
  | nil => rfl
  | cons a b ih =>
    rename_i k0 v0 d0 kvs l
    by_cases c : k0 = k
    · have e1 : getP ((k0, d0) :: l) k = some d0 := by simp [getP, List.find?_cons, c]
      rw [e1, show valV ((k0, v0) :: kvs) k = some v0 from valV_pos c]
      rfl
    · have e1 : getP ((k0, d0) :: l) k = getP l k := by simp [getP, List.find?_cons, c]
      rw [e1, show valV ((k0, v0) :: kvs) k = valV kvs k from valV_neg c]
      exact ih
def dInD (neg : Bool) : Op2 := fun a b Q => ∃ k l, a = dK k ∧ b = dicD l ∧ Q (.bl (if neg = true then !(getP l k).isSome else (getP l k).isSome))
section
variable {X : Cx} {G : Gx}
theorem cz_dicD {K : PySem.W.Frag} {T : Addr → Prop} {H : Hp} {v : V} {l : List (Key × D)} (h : Cz K T H v (dicD l)) : ∃ a kvs, v = .ref a ∧ Rd H a (.dK kvs) ∧ Zp K H kvs l := fz_dicD h.fz
theorem cz_dK {K : PySem.W.Frag} {T : Addr → Prop} {H : Hp} {v : V} {k : Key} (h : Cz K T H v (dK k)) : v = kV k := fz_dK h.fz
theorem opx_inD (hu : X.A.units + 1 < cLine) : OpX X G (compareOp .In) (dInD false) := by
  refine ⟨fun pins s σ H x y v u Q I rx ry ⟨T, d1, d2, t, c1, c2, k, l, h1, h2, q⟩ => ?_, fun a b Q Q' i ⟨k, l, h1, h2, q⟩ => ⟨k, l, h1, h2, i _ q⟩⟩
  subst h1 h2
  obtain rfl := cz_dK c1
  obtain ⟨a, kvs, rfl, rd, zp⟩ := cz_dicD c2
  cases ry
  have q : ∀ v H', Ex H H' → Fz G.K (hid T H') v (.bl (getP l k).isSome) → Q v H' := q
  rw [← zp.get? k] at q
  exact d_in hu I (.inl ⟨_, k, rd, rfl, rfl⟩) rx fun s3 I3 => ⟨.bl _, H, I3, rfl, q _ H (Ex.refl H) (.bl _)⟩
theorem x_inD {k : Key} {l : List (Key × D)} {Q : D → Prop} (h : Q (.bl (getP l k).isSome)) : dInD false (dK k) (dicD l) Q := ⟨k, l, rfl, rfl, h⟩
end
end Fx

/-! dict(list of pairs) -/
namespace Fx
open PySem PySem.Spec PyProof.Rows L2 Evl Lk
def mergeP {α : Type} : List (Key × α) → List (Key × α) → List (Key × α)
  | acc, [] => acc
  | acc, (k, v) :: r => mergeP (putP acc k v) r
section
variable {K : PySem.W.Frag} {H : Hp}
theorem Zp.merge : ∀ {more : List (Key × V)} {m : List (Key × D)} {kvs : List (Key × V)} {l : List (Key × D)}, Zp K H kvs l → Zp K H more m → Zp K H (mergeK kvs more) (mergeP l m)
  | _, _, _, _, z, .nil => z
  | _, _, kvs, l, z, .cons (k := k) (v := v) (d := d) (kvs := more) (l := m) a b => show Zp K H (mergeK (putK kvs k v) more) (mergeP (putP l k d) m) from Zp.merge (kvs := putK kvs k v) (l := putP l k d) (z.put a) b
def pairD (p : Key × D) : D := .tup [dK p.1, p.2]
theorem pairs_of : ∀ {l : List (Key × D)} {vs : List V}, FzL K H vs (l.map pairD) → ∃ (ps : List Addr) (kvs : List (Key × V)), vs = ps.map V.ref ∧ Paired (fun p kv => SqT K H p [kV kv.1, kv.2]) ps kvs ∧ Zp K H kvs l
  | [], _, h => by cases h; exact ⟨[], [], rfl, .nil, .nil⟩
  | (k, d) :: l, _, h => by
    cases h with
    | cons a b =>
      obtain ⟨ps, kvs, e, pr, z⟩ := pairs_of b
      have a : Fz K H _ (.tup [dK k, d]) := a
      cases a with
      | tup s f =>
        rename_i p xs
        cases f with
        | cons f1 f =>
          cases f with
          | cons f2 f =>
            cases f
            have e1 := fz_dK f1
            subst e1
            exact ⟨p :: ps, (k, _) :: kvs, by rw [e]; rfl, .cons s pr, .cons f2 z⟩
end
section
variable {X : Cx} {G : Gx} {e : Expr} {w : WE} {p pos : Pos}
def wDictP (w : WE) : WE := fun env Q => w env fun r e => ∃ l : List (Key × D), r = .f (.lst (l.map pairD)) ∧ Q (.own (dicO (mergeP [] l))) e
theorem own_dicO_new {T : Addr → Prop} {H : Hp} {q : Addr} {kvs : List (Key × V)} {l : List (Key × D)} (np : H q = none) (t : Trk T H) (z : Zp G.K (hid T H) kvs l) : Ow G.K (fun a => T a ∨ a = q) (upd H q (.dK kvs)) (dicO l) (.ref q) [q] := by
  have z2 : FzL G.K (hid (fun a => T a ∨ a = q) (upd H q (.dK kvs))) (kvs.map (·.2)) (l.map (·.2)) := z.snd.ex (hid_new np)
  have ol := owl_fs (T := fun a => T a ∨ a = q) (H := upd H q (.dK kvs)) z2
  rw [List.map_map] at ol
  have fin : Ow G.K (fun a => T a ∨ a = q) (upd H q (.dK kvs)) (.dic (kvs.map (·.1)) (l.map (O.f ∘ fun x => x.2))) (.ref q) [q] := .dic (fp := []) (.inr rfl) (by rw [zip_self]; exact upd_same) (by rw [List.length_map, List.length_map]) ol (by simp)
  rw [z.fst] at fin
  exact fin
theorem ge_dictP (hc : X.calm = true) (hg : Gl X "dict") (hm : X.mg "dict" = none) (he : GE X G e w) (hK : X.K = G.K := by rfl) (hst : starEach [e] X.env = (false, eval e X.env) :: starEach [] X.env := by rfl) : GE X G (.Call (.Name "dict" p) [e] [] pos) (wDictP w) := by
  refine ⟨pe_imp (pe_callTy (call_dictP hc) hg hm rfl (pa_cons he.pe pa_nil hst) (by decide) (by decide) hst rfl) fun σ H Q ⟨T, env, F, r, q⟩ => ?_, fun env Q Q' i q => he.mono _ _ _ (fun s e ⟨l, h1, q⟩ => ⟨l, h1, i _ _ q⟩) q⟩
  refine ⟨T, env, F, r, he.mono _ _ _ (fun s e ⟨l, h1, q⟩ x T1 H1 F1 f1 a1 z1 => ?_) q⟩
  subst h1
  have z : Fz G.K (hid T1 H1) x (.lst (l.map pairD)) := z1.rel.1
  cases z with
  | lst sl f =>
    rename_i a vs
    obtain ⟨ps, kvs, e1, pr, zp⟩ := pairs_of f
    subst e1
    have pr2 : Paired (fun p kv => SqT X.K H1 p [kV kv.1, kv.2]) ps kvs := by
      rw [hK]
      clear zp sl f q z1
      induction pr with
      | nil => exact .nil
      | cons a b ih => exact .cons (ex_t hid_ex a) ih
    refine ⟨a, ps, kvs, rfl, by rw [hK]; exact ex_l hid_ex sl, pr2, fun q2 np => ?_⟩
    exact q _ _ _ F1 [q2] (a1.trans r.trk (att_new a1.re np)) (res_trans r.trk a1 (own_new a1.re np (own_dicO_new np a1.re.trk (Zp.merge .nil zp))))
theorem x_dictP {env : Env} {Q : Sl → Env → Prop} (h : w env fun r e => ∃ l : List (Key × D), r = .f (.lst (l.map pairD)) ∧ Q (.own (dicO (mergeP [] l))) e) : wDictP w env Q := h
end
end Fx

/-! min, max, sum of a list of whole numbers; abs -/
namespace Fx
open PySem PySem.Spec PyProof.Rows L2 Evl Lk
theorem fz_intsV {K : PySem.W.Frag} {H : Hp} : ∀ {ns : List Int} {vs : List V}, FzL K H vs (ns.map D.int) → vs = ns.map V.int
  | [], _, h => by cases h; rfl
  | n :: ns, _, h => by
    cases h with
    | cons a b =>
      rw [fz_intsV b]
      cases a
      rfl
def cMinL : OpC
  | [.lst ds], Q => ∃ ns : List Int, ds = ns.map D.int ∧ 0 < ns.length ∧ ∀ m, m ∈ ns → (∀ y, y ∈ ns → m ≤ y) → Q (.int m)
  | _, _ => False
def cMaxL : OpC
  | [.lst ds], Q => ∃ ns : List Int, ds = ns.map D.int ∧ 0 < ns.length ∧ ∀ m, m ∈ ns → (∀ y, y ∈ ns → y ≤ m) → Q (.int m)
  | _, _ => False
section
variable {X : Cx} {G : Gx}
theorem cax_minL (hc : X.calm = true) (hK : X.K = G.K := by rfl) : CaX X G (.builtin "min") cMinL := by
  refine ⟨fun pins s σ H xs us Q I rv ⟨T, ds, t, c, q⟩ => ?_, fun a Q Q' i q => ?_⟩
  · unfold cMinL at q
    split at q
    · obtain ⟨ns, e, h0, q⟩ := q
      subst e
      obtain ⟨v, rfl, cv⟩ := cz1 c
      obtain ⟨a, vs, rfl, l, f⟩ := cv
      rw [fz_intsV f] at l
      exact cr_min hc pins s σ H _ us Q I rv ⟨a, ns, rfl, by rw [hK]; exact l, h0, fun m h1 h2 => q m h1 h2 _ H (Ex.refl H) (.int _)⟩
    · exact q.elim
  · unfold cMinL at q ⊢
    split at q
    · obtain ⟨ns, e, h0, q⟩ := q
      exact ⟨ns, e, h0, fun m h1 h2 => i _ (q m h1 h2)⟩
    · exact q.elim
theorem cax_maxL (hc : X.calm = true) (hK : X.K = G.K := by rfl) : CaX X G (.builtin "max") cMaxL := by
  refine ⟨fun pins s σ H xs us Q I rv ⟨T, ds, t, c, q⟩ => ?_, fun a Q Q' i q => ?_⟩
  · unfold cMaxL at q
    split at q
    · obtain ⟨ns, e, h0, q⟩ := q
      subst e
      obtain ⟨v, rfl, cv⟩ := cz1 c
      obtain ⟨a, vs, rfl, l, f⟩ := cv
      rw [fz_intsV f] at l
      exact cr_max hc pins s σ H _ us Q I rv ⟨a, ns, rfl, by rw [hK]; exact l, h0, fun m h1 h2 => q m h1 h2 _ H (Ex.refl H) (.int _)⟩
    · exact q.elim
  · unfold cMaxL at q ⊢
    split at q
    · obtain ⟨ns, e, h0, q⟩ := q
      exact ⟨ns, e, h0, fun m h1 h2 => i _ (q m h1 h2)⟩
    · exact q.elim
end
end Fx

namespace Fx
open PySem PySem.Spec PyProof.Rows L2 Evl Lk NdefX

/-! ### all, any of a generator expression whose elements may call defs -/
/-- a captured slot: what is owned is looked at -/
def capE (e : Env) (j : Nat) : Option Sl := match e[j]? with
  | some (some (.own o)) => some (.vw o)
  | some s => s
  | none => none
def qAll (kp : Bool) (ds : List D) (pb : D → Bool) : Bool := match kp with
  | true => ds.all pb
  | false => ds.any pb
def wAllX (wi : WI) (cs : List Nat) (kp : Bool) (w : WE) : WE := fun env Q => wi env fun ds e0 => ∃ pb : D → Bool, (∀ d ∈ ds, w (none :: some (.f d) :: cs.map (capE e0)) fun r _ => r = .f (.bl (pb d))) ∧ Q (.f (.bl (qAll kp ds pb))) e0
/-- the element's own run: it changes nothing -/
def gIn (G : Gx) (T : Addr → Prop) (H : Hp) (σ : L2.St) : Gx := ⟨G.K, G.tabs, T, H, fun _ => False, σ, fun _ => false, fun _ _ => False, fun _ => none⟩
def tIn (G : Gx) (w : WE) : TE := fun σ H Q => ∃ T0 H0 σ0, tW (gIn G T0 H0 σ0) w σ H Q
theorem capE_get {e : Env} {j : Nat} {s : Sl} (h : capE e j = some s) : (∀ o, s ≠ .own o) ∧ ∃ t, e[j]? = some (some t) ∧ ((∃ o, t = .own o ∧ s = .vw o) ∨ ((∀ o, t ≠ .own o) ∧ t = s)) := by
  unfold capE at h
  split at h
  · rename_i o ho
    cases h
    exact ⟨nofun, _, ho, .inl ⟨o, rfl, rfl⟩⟩
  · rename_i t hn ho
    subst h
    exact ⟨fun o z => hn o (by rw [z]), _, ho, .inr ⟨fun o z => hn o (by rw [z]), rfl⟩⟩
  · cases h
section
variable {X : Cx} {G : Gx} {e : Expr} {wi : WI} {cs : List Nat} {kp : Bool} {w : WE}
theorem mono_allX (mi : MonoI wi) : MonoE (wAllX wi cs kp w) := fun env Q Q' i q => mi _ _ _ (fun ds e0 ⟨pb, h, q⟩ => ⟨pb, h, i _ _ q⟩) q
/-- the element's frame -/
theorem in_gen {T : Addr → Prop} {H : Hp} {σ : L2.St} {env : Env} {F : Nat → List Addr} {v : V} {d : D} (r : RE G T H σ env F) (fz : Fz G.K (hid T H) v d) :
    ∃ F', RE (gIn G T H ((gS σ cs).set 1 (some v))) T H ((gS σ cs).set 1 (some v)) (none :: some (.f d) :: cs.map (capE env)) F' := by
  have noOwn : ∀ i, ¬ IsOwn (none :: some (.f d) :: cs.map (capE env)) i := fun i ⟨o, h⟩ => by
    match i, h with
    | 0, h => cases h
    | 1, h => cases h
    | i + 2, h =>
      have h : (cs.map (capE env))[i]? = some (some (.own o)) := h
      rw [List.getElem?_map] at h
      cases ej : cs[i]? with
      | none => rw [ej] at h; cases h
      | some j =>
        rw [ej] at h
        exact (capE_get (Option.some.inj h)).1 o rfl
  refine ⟨fun k => match k with
    | 0 => []
    | 1 => []
    | k + 2 => match cs[k]? with
      | some j => match env[j]? with
        | some (some (.f _)) => []
        | _ => F j
      | none => [], r.trk, r.tab, fun i s h => ?_, fun i j _ h => absurd h (noOwn i), .refl r.trk, fun a ⟨i, h, _⟩ => absurd h (noOwn i), r.trk, nofun, by simp [gS], ex_none⟩
  match i, h with
  | 0, h => cases h
  | 1, h =>
    cases h
    exact ⟨v, rfl, fz, rfl⟩
  | i + 2, h =>
    have h : (cs.map (capE env))[i]? = some (some s) := h
    rw [List.getElem?_map] at h
    cases ej : cs[i]? with
    | none => rw [ej] at h; cases h
    | some j =>
      rw [ej] at h
      obtain ⟨no, t, ht, q⟩ := capE_get (Option.some.inj h)
      obtain ⟨u, h1, h2⟩ := r.slot j t ht
      refine ⟨u, ?_, ?_⟩
      · show (cs.map (slotAt σ))[i]? = some (some u)
        rw [List.getElem?_map, ej]
        show some (slotAt σ j) = _
        rw [slotAt_of h1]
      · show SlR _ T H s u (match cs[i]? with
          | some j => match env[j]? with
            | some (some (.f _)) => []
            | _ => F j
          | none => [])
        rw [ej]
        show SlR _ T H s u (match env[j]? with
            | some (some (.f _)) => []
            | _ => F j)
        rw [ht]
        rcases q with ⟨o, rfl, rfl⟩ | ⟨n, rfl⟩
        · exact h2
        · cases t with
          | f d' => exact ⟨h2.1, rfl⟩
          | own o => exact absurd rfl (n o)
          | vw o => exact h2
theorem allW (mi : MonoI wi) (mw : MonoE w) {P : Addr} (hP : P ∈ G.tabs) {σ : L2.St} {H : Hp} {Q : VK} (h : tW G (wAllX wi cs kp w) σ H Q) : tAllX P (tWI G wi) (tIn G w) cs kp σ H Q := by
  obtain ⟨T, env, F, r, q⟩ := h
  refine ⟨T, env, F, r, mi _ _ _ (fun ds e0 ⟨pb, he, q⟩ It T1 H1 F1 Bs a it b0 => ?_) q⟩
  refine ⟨(a.re.tab P hP).1, fun i m H' => m = ds.length - i ∧ i ≤ ds.length ∧ (∀ k d, k < i → ds[k]? = some d → pb d = kp) ∧ ∃ T', Att G σ T H env F T' H' e0 F1 ∧ Bs T' H', ⟨_, rfl, Nat.zero_le _, fun k d hk => absurd hk (Nat.not_lt_zero _), T1, a, b0⟩, ?_⟩
  rintro i m H' ⟨rfl, hi, hk, T', a', b'⟩
  by_cases hlt : i < ds.length
  · obtain ⟨go, yl⟩ := it.go i T' H' a'.re.trk b' hlt
    refine .inr ⟨go, fun v H2 y => ?_⟩
    obtain ⟨d, hd, ex, fz⟩ := yl v H2 y
    have a2 : Att G σ T H env F T' H2 e0 F1 := a'.trans r.trk (Att.ex a'.re ex)
    obtain ⟨F2, r2⟩ := in_gen (cs := cs) a2.re fz
    have b2 : Bs T' H2 := it.keep _ _ _ _ b' (hid_mono ex)
    refine ⟨T', H2, _, T', _, F2, r2, mw _ _ _ (fun s e3 hs v3 T3 H3 F3 fr a3 z3 => ?_) (he d (List.mem_of_getElem? hd))⟩
    subst hs
    have e3 : v3 = .bl (pb d) := bl_of z3.rel
    refine ⟨pb d, e3, ?_⟩
    -- back in the frame
    have nP : ∀ x, ¬ OwnP (none :: some (.f d) :: cs.map (capE e0)) F2 x := fun x hx => by
      have := r2.ow x hx
      rcases this with z | z
      · exact z
      · exact r2.trk x (r2.sub x hx) z
    have c3 : Chg T' H2 (fun _ => False) T3 H3 := a3.chg.weak fun x hx => nP x hx
    have x3 : Ex H2 H3 := c3.ex
    have a4 : Att G σ T' H2 e0 F1 T3 H3 e0 F1 := ⟨c3.weak fun _ hx => hx.elim, a2.re.chg c3 (fun _ hx => hx.elim) (fun _ hx => hx.elim) (fun _ _ _ _ hx => hx.elim), fun x hx => .inl hx, fun k o hk => ⟨hk, rfl⟩⟩
    have a5 := a2.trans r.trk a4
    by_cases hb : pb d = kp
    · rw [if_pos hb]
      refine ⟨ds.length - (i + 1), by omega, rfl, hlt, fun k d' hk' hd' => ?_, T3, a5, it.keep _ _ _ _ b2 (c3.hid fun _ hx => hx.elim)⟩
      by_cases e : k = i
      · rw [e, hd] at hd'
        cases hd'
        exact hb
      · exact hk k d' (by omega) hd'
    · rw [if_neg hb]
      have eq : qAll kp ds pb = !kp := by
        cases kp with
        | true =>
          have hb : pb d = false := by simpa using hb
          show ds.all pb = false
          rw [List.all_eq_false]
          exact ⟨d, List.mem_of_getElem? hd, by rw [hb]; decide⟩
        | false =>
          have hb : pb d = true := by simpa using hb
          show ds.any pb = true
          rw [List.any_eq_true]
          exact ⟨d, List.mem_of_getElem? hd, hb⟩
      rw [eq] at q
      exact q _ T3 H3 F1 [] a5 (res_f (.bl _))
  · have e : i = ds.length := by omega
    subst e
    refine .inl ⟨it.stop _ T' H' b' rfl, ?_⟩
    have eq : qAll kp ds pb = kp := by
      have al : ∀ d ∈ ds, pb d = kp := fun d hd => by
        obtain ⟨k, hkl, ek⟩ := List.getElem_of_mem hd
        exact hk k d hkl (by rw [List.getElem?_eq_getElem hkl, ek])
      cases kp with
      | true => exact List.all_eq_true.mpr al
      | false =>
        show ds.any pb = false
        rw [List.any_eq_false]
        intro d hd
        rw [al d hd]
        decide
    rw [eq] at q
    exact q _ T' H' F1 [] a' (res_f (.bl _))
/-- the element, in the generator's frame -/
abbrev GEX (X : Cx) (scope : Scope) (x : Str) (cs : List Nat) (k : Nat) (G : Gx) (elt : Expr) (w : WE) : Prop :=
  ∀ (s4 : Shared) (H1 : Hp) (C : Addr) (cl : List (Str × Addr)) (cd : Value) (A' : Around) (fp : List Addr) (pn : List (Addr × Obj)) (T0 : Addr → Prop) (H0 : Hp) (σ0 : L2.St), Room k A' → GE (gx X s4 H1 (genEnv scope cl C cd builtinsNs X.env) A' (gN X.N x cs) fp pn) (gIn G T0 H0 σ0) elt w
theorem elt_in {scope : Scope} {x : Str} {k : Nat} {elt : Expr} (h : GEX X scope x cs k G elt w) : EltX X scope x cs k elt (tIn G w) := fun s4 H1 C cl cd A' fp pn hr =>
  ⟨fun pins s σ H Q I ⟨T0, H0, σ0, q⟩ => (h s4 H1 C cl cd A' fp pn T0 H0 σ0 hr).pe.run pins s σ H Q I q⟩
theorem ge_allX {c P : Addr} {elt iter : Expr} {x : Str} {px p pos gpos : Pos} {scope : Scope} {k : Nat} (TB : GxR.TabB X.base X.mg c P) (hr : Room (k + 1) X.A) (hg : Gl X "all") (hm : X.mg "all" = none) (hcode : X.env.code = .ref c) (S : GxR.GenS X.env scope x)
    (hcs : CapOk X scope cs) (hnd : (gN X.N x cs).Nodup) (hi : GI X G (.Name x px) iter wi) (hel : GEX X scope x cs k G elt w) (hs : ∀ v, genFold iter X.env v = pure v) (hP : P ∈ G.tabs)
    (he : starEach [.GeneratorExp elt [⟨.Name x px, iter, [], 0⟩] scope gpos] X.env = (false, eval (.GeneratorExp elt [⟨.Name x px, iter, [], 0⟩] scope gpos) X.env) :: starEach [] X.env := by rfl) :
    GE X G (.Call (.Name "all" p) [.GeneratorExp elt [⟨.Name x px, iter, [], 0⟩] scope gpos] [] pos) (wAllX wi cs true w) :=
  ⟨pe_imp (pe_allX TB hr hg hm hcode S hcs hnd hi.pi (elt_in hel) hs he) fun σ H Q q => allW hi.mono (hel {} (fun _ => none) 0 [] .none X.A [] [] (fun _ => False) (fun _ => none) [] (hr.mono (Nat.le_succ _))).mono hP q, mono_allX hi.mono⟩
end
end Fx

/-! Fx61: a dict value is walked: while it is walked its object is known -/
namespace Lk
open PySem PySem.Spec PyProof.Rows L2 Evl
section
variable {X : Cx} {pins : List (Addr × Obj)} {σ : L2.St} {H : Hp} {s : Shared} {a : Addr} {kvs : List (Key × V)} {o : Obj}
theorem inv_freeze (I : Inv X pins σ H s) (h : H a = some (.dK kvs)) : ∃ o, Inv X pins σ (upd H a (.frz o (.dK kvs))) s := by
  have ok := I.hok a _ h
  obtain ⟨o, ho⟩ : ∃ o, s.heap.get? a = some o := by
    obtain ⟨_, _, _, _, o, _, _, e, _⟩ := ok
    exact ⟨o, e⟩
  have ne : ∀ b u, H b = some u → u ≠ .dK kvs → b ≠ a := fun b u e n z => by
    rw [z, h] at e
    cases e
    exact n rfl
  have nn : ∀ b, H b = none → b ≠ a := fun b e z => by rw [z, h] at e; cases e
  refine ⟨o, I.ok, I.os, I.bare, ⟨I.base.keep, I.base.slot, fun b ob q n hx => ?_, I.base.there, fun b xs e => ?_, fun b ob u e => ?_, fun b ps e => ?_⟩, I.loc, I.cell, ?_, fun x c e => ?_, fun p hp => ?_, fun b u e => ?_, I.len⟩
  · have e := I.base.free b ob q n hx
    rw [upd_ne (nn b e)]
    exact e
  · have e := I.base.tups b xs e
    rw [upd_ne (ne b _ e nofun)]
    exact e
  · have e := I.base.frzs b ob u e
    rw [upd_ne (ne b _ e nofun)]
    exact e
  · obtain ⟨more, e⟩ := I.base.tbls b ps e
    exact ⟨more, by rw [upd_ne (ne b _ e nofun)]; exact e⟩
  · rw [upd_ne (nn _ I.free)]
    exact I.free
  · rw [upd_ne (nn _ (I.freeC x c e))]
    exact I.freeC x c e
  · obtain ⟨h1, h2, h3⟩ := I.pin p hp
    exact ⟨h1, by rw [upd_ne (nn _ h2)]; exact h2, h3⟩
  · by_cases hb : b = a
    · rw [hb, upd_same] at e
      cases e
      rw [hb]
      refine ⟨ho, ok.stay (fun _ _ _ q => q) (fun b e => ?_) fun b xs e => ?_⟩
      · rw [upd_ne (ne b _ e nofun)]; exact e
      · rw [upd_ne (ne b _ e nofun)]; exact e
    · rw [upd_ne hb] at e
      refine (I.hok b u e).stay (fun _ _ _ q => q) (fun c e => ?_) fun c xs e => ?_
      · rw [upd_ne (ne c _ e nofun)]; exact e
      · rw [upd_ne (ne c _ e nofun)]; exact e
theorem inv_thaw (I : Inv X pins σ H s) (h : H a = some (.frz o (.dK kvs))) (n0 : ∀ ob u, X.H_0 a ≠ some (.frz ob u)) : Inv X pins σ (upd H a (.dK kvs)) s := by
  have ok : ObjOk X.prog X.w H s.heap a (.frz o (.dK kvs)) := I.hok a _ h
  have ne : ∀ b u, H b = some u → u ≠ .frz o (.dK kvs) → b ≠ a := fun b u e n z => by
    rw [z, h] at e
    cases e
    exact n rfl
  have nn : ∀ b, H b = none → b ≠ a := fun b e z => by rw [z, h] at e; cases e
  refine ⟨I.ok, I.os, I.bare, ⟨I.base.keep, I.base.slot, fun b ob q n hx => ?_, I.base.there, fun b xs e => ?_, fun b ob u e => ?_, fun b ps e => ?_⟩, I.loc, I.cell, ?_, fun x c e => ?_, fun p hp => ?_, fun b u e => ?_, I.len⟩
  · have e := I.base.free b ob q n hx
    rw [upd_ne (nn b e)]
    exact e
  · have e := I.base.tups b xs e
    rw [upd_ne (ne b _ e nofun)]
    exact e
  · have e' := I.base.frzs b ob u e
    have hb : b ≠ a := fun z => n0 ob u (by rw [← z]; exact e)
    rw [upd_ne hb]
    exact e'
  · obtain ⟨more, e⟩ := I.base.tbls b ps e
    exact ⟨more, by rw [upd_ne (ne b _ e nofun)]; exact e⟩
  · rw [upd_ne (nn _ I.free)]
    exact I.free
  · rw [upd_ne (nn _ (I.freeC x c e))]
    exact I.freeC x c e
  · obtain ⟨h1, h2, h3⟩ := I.pin p hp
    exact ⟨h1, by rw [upd_ne (nn _ h2)]; exact h2, h3⟩
  · by_cases hb : b = a
    · rw [hb, upd_same] at e
      cases e
      rw [hb]
      have ok2 : ObjOk X.prog X.w H s.heap a (.dK kvs) := ok.2
      refine ok2.stay (fun _ _ _ q => q) (fun b e => ?_) fun b xs e => ?_
      · rw [upd_ne (ne b _ e nofun)]; exact e
      · rw [upd_ne (ne b _ e nofun)]; exact e
    · rw [upd_ne hb] at e
      refine (I.hok b u e).stay (fun _ _ _ q => q) (fun c e => ?_) fun c xs e => ?_
      · rw [upd_ne (ne c _ e nofun)]; exact e
      · rw [upd_ne (ne c _ e nofun)]; exact e
/-- the dict at a is known while e runs -/
def tFz (a : Addr) (t : TE) : TE := fun σ H Q => ∃ kvs, H a = some (.dK kvs) ∧ ∀ o, t σ (upd H a (.frz o (.dK kvs))) fun v H' => H' a = some (.frz o (.dK kvs)) ∧ Q v (upd H' a (.dK kvs))
theorem pe_fz {e : Expr} {t : TE} (h : PE X e t) : PE X e (fun σ H Q => ∃ a, tFz a t σ H Q) := by
  refine ⟨fun pins s σ H Q I ⟨a, kvs, ha, q⟩ => ?_⟩
  obtain ⟨o, I2⟩ := inv_freeze I ha
  refine thn (h.run pins s σ _ _ I2 (q o)) fun v s' ⟨x, H', I', r, e, q⟩ => ⟨x, _, inv_thaw I' e fun ob u z => ?_, r, q⟩
  have := I.base.frzs a ob u z
  rw [ha] at this
  cases this
def tFzS (a : Addr) (t : TS) : TS := fun D σ H => ∃ kvs, H a = some (.dK kvs) ∧ ∀ o, t { nx := fun σ' H' => H' a = some (.frz o (.dK kvs)) ∧ D.nx σ' (upd H' a (.dK kvs)), rt := fun v H' => H' a = some (.frz o (.dK kvs)) ∧ D.rt v (upd H' a (.dK kvs)), bk := fun σ' H' => H' a = some (.frz o (.dK kvs)) ∧ D.bk σ' (upd H' a (.dK kvs)), ct := fun σ' H' => H' a = some (.frz o (.dK kvs)) ∧ D.ct σ' (upd H' a (.dK kvs)) } σ (upd H a (.frz o (.dK kvs)))
theorem ps_fz {st : Stmt} {t : TS} (h : PS X st t) : PS X st (fun D σ H => ∃ a, tFzS a t D σ H) := by
  refine ⟨fun pins s σ H D I ⟨a, kvs, ha, q⟩ => ?_⟩
  obtain ⟨o, I2⟩ := inv_freeze I ha
  have n0 : ∀ ob u, X.H_0 a ≠ some (.frz ob u) := fun ob u z => by
    have := I.base.frzs a ob u z
    rw [ha] at this
    cases this
  refine thn (h.run pins s σ _ _ I2 (q o)) fun f s' hf => ?_
  cases f with
  | next => obtain ⟨σ', H', I', e, q⟩ := hf; exact ⟨σ', _, inv_thaw I' e n0, q⟩
  | brk => obtain ⟨σ', H', I', e, q⟩ := hf; exact ⟨σ', _, inv_thaw I' e n0, q⟩
  | cont => obtain ⟨σ', H', I', e, q⟩ := hf; exact ⟨σ', _, inv_thaw I' e n0, q⟩
  | ret u => obtain ⟨v, σ', H', I', r, e, q⟩ := hf; exact ⟨v, σ', _, inv_thaw I' e n0, r, q⟩
end
end Lk

namespace Fx
open PySem PySem.Spec PyProof.Rows L2 Evl Lk

/-! ### a dict value while it is walked -/
def Sim (H H' : Hp) : Prop := ∀ b u, H b = some u → H' b = some u ∨ (∃ ob kvs, u = .dK kvs ∧ H' b = some (.frz ob (.dK kvs))) ∨ (∃ ob kvs, u = .frz ob (.dK kvs) ∧ H' b = some (.dK kvs))
section
variable {K : PySem.W.Frag} {T : Addr → Prop} {H H' : Hp} {a : Addr}
theorem sim_hid (s : Sim H H') : Sim (hid T H) (hid T H') := fun b u e => by
  obtain ⟨h, n⟩ := hid_some e
  rcases s b u h with z | ⟨ob, kvs, rfl, z⟩ | ⟨ob, kvs, rfl, z⟩
  · exact .inl (hid_of z n)
  · exact .inr (.inl ⟨ob, kvs, rfl, hid_of z n⟩)
  · exact .inr (.inr ⟨ob, kvs, rfl, hid_of z n⟩)
theorem sim_at {u : HO} (s : Sim H H') (h : H a = some u) (n1 : ∀ kvs, u ≠ .dK kvs) (n2 : ∀ ob kvs, u ≠ .frz ob (.dK kvs)) : H' a = some u := by
  rcases s a u h with z | ⟨ob, kvs, e, _⟩ | ⟨ob, kvs, e, _⟩
  · exact z
  · exact absurd e (n1 _)
  · exact absurd e (n2 _ _)
theorem rd_sim {u : HO} (s : Sim H H') (n1 : ∀ kvs, u ≠ .dK kvs) (n2 : ∀ ob kvs, u ≠ .frz ob (.dK kvs)) (h : Rd H a u) : Rd H' a u := by
  rcases h with h | ⟨o, h⟩
  · exact .inl (sim_at s h n1 n2)
  · refine .inr ⟨o, sim_at s h (fun _ e => by cases e) fun ob kvs e => ?_⟩
    cases e
    exact n1 _ rfl
theorem rd_simD {kvs : List (Key × V)} (s : Sim H H') (h : Rd H a (.dK kvs)) : Rd H' a (.dK kvs) := by
  rcases h with h | ⟨o, h⟩
  · rcases s a _ h with z | ⟨ob, k2, e, z⟩ | ⟨ob, k2, e, z⟩
    · exact .inl z
    · cases e; exact .inr ⟨ob, z⟩
    · cases e
  · rcases s a _ h with z | ⟨ob, k2, e, z⟩ | ⟨ob, k2, e, z⟩
    · exact .inr ⟨o, z⟩
    · cases e
    · cases e; exact .inl z
theorem sql_sim {xs : List V} (s : Sim H H') (h : SqL K H a xs) : SqL K H' a xs := by
  rcases h with h | h
  · exact .inl (rd_sim (u := .lst xs) s (fun _ e => by cases e) (fun _ _ e => by cases e) h)
  · exact .inr h
theorem sqt_sim {xs : List V} (s : Sim H H') (h : SqT K H a xs) : SqT K H' a xs := by
  rcases h with h | h
  · exact .inl (rd_sim (u := .tup xs) s (fun _ e => by cases e) (fun _ _ e => by cases e) h)
  · exact .inr h
theorem RowR.sim {d : Option Addr} (e : Sim H H') : ∀ {r : Option Int}, RowR H d r → RowR H' d r
  | none, h => h
  | some _, ⟨dd, h1, h2⟩ => ⟨dd, h1, sim_at e h2 (fun _ e => by cases e) (fun _ _ e => by cases e)⟩
mutual
theorem Fz.sim (e : Sim H H') : ∀ {d : D} {v : V}, Fz K H v d → Fz K H' v d
  | .non, _, h => by cases h; exact .non
  | .bl b, _, h => by cases h; exact .bl b
  | .int i, _, h => by cases h; exact .int i
  | .str x, _, h => by cases h; exact .str x
  | .ty (.bt n), _, h => by cases h; exact .ty n
  | .ty (.cls C), _, h => by cases h; exact .cls C
  | .ty (.exc C r), _, h => by cases h with | exc a b => exact .exc (sim_at e a (fun _ e => by cases e) (fun _ _ e => by cases e)) (b.sim e)
  | .lst ds, _, h => by cases h with | lst a b => exact .lst (sql_sim e a) (FzL.sim e b)
  | .tup ds, _, h => by cases h with | tup a b => exact .tup (sqt_sim e a) (FzL.sim e b)
  | .dic ks ds, _, h => by cases h with | dic a l b => exact .dic (rd_simD e a) l (FzL.sim e b)
theorem FzL.sim (e : Sim H H') : ∀ {ds : List D} {vs : List V}, FzL K H vs ds → FzL K H' vs ds
  | [], _, h => by cases h; exact .nil
  | d :: ds, _, h => by cases h with | cons a b => exact .cons (Fz.sim e a) (FzL.sim e b)
end
mutual
theorem Ow.sim (e : Sim (hid T H) (hid T H')) : ∀ {o : O} {v : V} {fp : List Addr}, (∀ a ∈ fp, T a → H' a = H a) → Ow K T H o v fp → Ow K T H' o v fp
  | .f d, _, _, _, h => by cases h with | f a => exact .f (a.sim e)
  | .lst ds, _, _, k, h => by cases h with | lst a b c => exact .lst a ((k _ (by simp) a).trans b) (c.sim e)
  | .dic ks os, _, _, k, h => by cases h with | dic a b l c n => exact .dic a ((k _ (by simp) a).trans b) l (OwL.sim e (fun x hx => k x (List.mem_cons_of_mem _ hx)) c) n
  | .ins C ns os, _, _, k, h => by cases h with | ins a b l c n => exact .ins a ((k _ (by simp) a).trans b) l (OwL.sim e (fun x hx => k x (List.mem_cons_of_mem _ hx)) c) n
theorem OwL.sim (e : Sim (hid T H) (hid T H')) : ∀ {os : List O} {vs : List V} {fp : List Addr}, (∀ a ∈ fp, T a → H' a = H a) → OwL K T H os vs fp → OwL K T H' os vs fp
  | [], _, _, _, h => by cases h; exact .nil
  | o :: os, _, _, k, h => by cases h with
    | cons a b d => exact .cons (Ow.sim e (fun x hx => k x (List.mem_append_left _ hx)) a) (OwL.sim e (fun x hx => k x (List.mem_append_right _ hx)) b) d
end
/-- while it is walked -/
def gZ (G : Gx) (T : Addr → Prop) (H : Hp) (P : Addr → Prop) (σ : L2.St) (i : Nat) : Gx := ⟨G.K, G.tabs, T, H, P, σ, fun j => (j == i) || G.prot j, fun _ _ => False, fun _ => none⟩
def FzAt (i : Nat) (T : Addr → Prop) (H : Hp) (P : Addr → Prop) (σ : L2.St) : Prop := ∃ a o kvs, σ[i]? = some (some (.ref a)) ∧ H a = some (.frz o (.dK kvs)) ∧ ¬ T a ∧ ¬ P a
structure Zw (T : Addr → Prop) (H Hz : Hp) (th : Hp → Hp) (a : Addr) (fo : HO) : Prop where
  at_ : Hz a = some fo
  nt : ¬ T a
  ha : H a ≠ none
  sim : Sim H Hz
  eq : ∀ b, b ≠ a → Hz b = H b
  thEq : ∀ H' b, b ≠ a → th H' b = H' b
  thSim : ∀ H', H' a = some fo → Sim H' (th H')
  thAt : ∀ H', H' a = some fo → th H' a = H a
theorem zw_id {fo : HO} (h : H a = some fo) (n : ¬ T a) : Zw T H H id a fo := ⟨h, n, by rw [h]; exact nofun, fun b u e => .inl e, fun _ _ => rfl, fun _ _ _ => rfl, fun _ _ _ _ e => .inl e, fun _ e => e.trans h.symm⟩
theorem zw_fz {kvs : List (Key × V)} {o : Obj} (h : H a = some (.dK kvs)) (n : ¬ T a) : Zw T H (upd H a (.frz o (.dK kvs))) (fun H' => upd H' a (.dK kvs)) a (.frz o (.dK kvs)) where
  at_ := upd_same
  nt := n
  ha := by rw [h]; exact nofun
  sim := fun b u e => by
    by_cases hb : b = a
    · rw [hb] at e ⊢
      rw [h] at e
      cases e
      exact .inr (.inl ⟨o, kvs, rfl, upd_same⟩)
    · exact .inl (by rw [upd_ne hb]; exact e)
  eq := fun b hb => upd_ne hb
  thEq := fun H' b hb => upd_ne hb
  thSim := fun H' e b u q => by
    by_cases hb : b = a
    · rw [hb] at q ⊢
      rw [e] at q
      cases q
      exact .inr (.inr ⟨o, kvs, rfl, upd_same⟩)
    · exact .inl (by rw [upd_ne hb]; exact q)
  thAt := fun H' e => by rw [upd_same, h]
end
section
variable {G : Gx} {T T' : Addr → Prop} {H Hz H' : Hp} {σ σ' : L2.St} {env env' : Env} {F F' : Nat → List Addr} {th : Hp → Hp} {a : Addr} {fo : HO} {i : Nat}
theorem slr_sim {G' : Gx} {s : Sl} {v : V} {fp : List Addr} (hK : G'.K = G.K) (e : Sim (hid T H) (hid T H')) (k : ∀ a ∈ fp, T a → H' a = H a) (h : SlR G T H s v fp) : SlR G' T H' s v fp := by
  cases s with
  | f d => exact ⟨hK ▸ h.1.sim e, h.2⟩
  | own o =>
    show Ow G'.K T H' o v fp
    rw [hK]
    exact Ow.sim (K := G.K) e k h
  | vw o =>
    show Ow G'.K T H' o v fp
    rw [hK]
    exact Ow.sim (K := G.K) e k h
theorem re_inZ (r : RE G T H σ env F) (z : Zw T H Hz th a fo) : RE (gZ G T Hz (OwnP env F) σ i) T Hz σ env F := by
  have nt : ∀ b, T b → b ≠ a := fun b h e => z.nt (by rw [← e]; exact h)
  have trk : Trk T Hz := fun b h => by rw [z.eq b (nt b h)]; exact r.trk b h
  exact ⟨trk, fun p hp => ⟨sim_at z.sim (r.tab p hp).1 (fun _ e => by cases e) (fun _ _ e => by cases e), (r.tab p hp).2⟩, fun j s hj => by
      obtain ⟨v, h1, h2⟩ := r.slot j s hj
      exact ⟨v, h1, slr_sim rfl (sim_hid z.sim) (fun b _ h => z.eq b (nt b h)) h2⟩, r.dis, .refl trk, fun _ h => .inl h, trk, fun _ _ => rfl, r.len, ex_none⟩
theorem chg_backZ (r : RE G T H σ env F) (z : Zw T H Hz th a fo) (c : Chg T Hz (OwnP env F) T' H') : H' a = some fo ∧ ¬ T' a ∧ Chg T H (OwnP env F) T' (th H') := by
  have np : ¬ OwnP env F a := fun h => z.nt (r.sub a h)
  have e := c.keep a fo z.at_ np
  have nt' : ¬ T' a := fun h => by
    rcases c.tf a h with q | q
    · exact z.nt q
    · rw [z.at_] at q; cases q
  refine ⟨e, nt', fun b u hb n => ?_, c.tk, fun b hb => ?_, fun b hb => ?_, fun b hb => ?_⟩
  · by_cases q : b = a
    · rw [q] at hb ⊢
      rw [z.thAt H' e]
      exact hb
    · rw [z.thEq H' b q]
      exact c.keep b u (by rw [z.eq b q]; exact hb) n
  · rcases c.tf b hb with q | q
    · exact .inl q
    · refine .inr ?_
      by_cases y : b = a
      · rw [y] at hb
        exact absurd hb nt'
      · rw [← z.eq b y]
        exact q
  · have y : b ≠ a := fun y => nt' (by rw [← y]; exact hb)
    rw [z.thEq H' b y]
    exact c.tr b hb
  · by_cases y : b = a
    · rw [y, z.thAt H' e]
      exact z.ha
    · rw [z.thEq H' b y]
      exact c.dom b (by rw [z.eq b y]; exact hb)
theorem re_backZ (r : RE G T H σ env F) (z : Zw T H Hz th a fo) (r' : RE (gZ G T Hz (OwnP env F) σ i) T' H' σ' env' F') : H' a = some fo ∧ ¬ T' a ∧ Chg T H (OwnP env F) T' (th H') ∧ RE G T' (th H') σ' env' F' := by
  obtain ⟨e, nt', c⟩ := chg_backZ r z r'.st
  refine ⟨e, nt', c, c.tr, fun p hp => ⟨sim_at (z.thSim H' e) (r'.tab p hp).1 (fun _ e => by cases e) (fun _ _ e => by cases e), (r'.tab p hp).2⟩, fun j s hj => ?_, r'.dis, r.st.trans r.t0 c r.ow, fun b hb => ?_, r.t0, fun j hj => ?_, r'.len, r.hx.trans (c.hid r.sub)⟩
  · obtain ⟨v, h1, h2⟩ := r'.slot j s hj
    exact ⟨v, h1, slr_sim rfl (sim_hid (z.thSim H' e)) (fun b _ h => z.thEq H' b fun y => nt' (by rw [← y]; exact h)) h2⟩
  · rcases r'.ow b hb with q | q
    · exact r.ow b q
    · refine .inr ?_
      have y : b ≠ a := fun y => by
        have q : Hz b = none := q
        rw [y, z.at_] at q; cases q
      have hb2 : H b = none := by rw [← z.eq b y]; exact q
      cases h0 : G.H0 b with
      | none => rfl
      | some u => exact absurd hb2 (r.st.dom b (by rw [h0]; exact nofun))
  · have p := r'.pin j (by show ((j == i) || G.prot j) = true; rw [hj]; simp)
    exact p.trans (r.pin j hj)
theorem noneZ (z : Zw T H Hz th a fo) {b : Addr} (h : Hz b = none) : H b = none := by
  have y : b ≠ a := fun y => by rw [y, z.at_] at h; cases h
  rw [← z.eq b y]
  exact h
theorem att_backZ (r : RE G T H σ env F) (z : Zw T H Hz th a fo) (a' : Att (gZ G T Hz (OwnP env F) σ i) σ T Hz env F T' H' env' F') : H' a = some fo ∧ Att G σ T H env F T' (th H') env' F' := by
  obtain ⟨e, _, c, re⟩ := re_backZ r z a'.re
  exact ⟨e, c, re, fun b hb => (a'.own b hb).imp id (noneZ z), a'.vw⟩
theorem res_backZ {s : Sl} {v : V} {fr : List Addr} (z : Zw T H Hz th a fo) (e : H' a = some fo) (nt' : ¬ T' a) (q : Res (gZ G T Hz (OwnP env F) σ i) T Hz env F T' H' env' F' s v fr) : Res G T H env F T' (th H') env' F' s v fr :=
  ⟨slr_sim rfl (sim_hid (z.thSim H' e)) (fun b _ h => z.thEq H' b fun y => nt' (by rw [← y]; exact h)) q.rel, q.dis, fun o eo b hb => (q.from_ o eo b hb).imp id (noneZ z)⟩
end
section
variable {X : Cx} {G : Gx} {e : Expr} {st : Stmt} {i : Nat} {w : WE} {ws : WS}
def wFz (i : Nat) (w : WE) : WE := fun env Q => (∃ ks ds, env[i]? = some (some (.f (.dic ks ds)))) ∧ w env Q
def wFzS (i : Nat) (w : WS) : WS := fun D env => (∃ ks ds, env[i]? = some (some (.f (.dic ks ds)))) ∧ w D env
theorem fzAt_any (i : Nat) : FzAt i (fun _ => False) (fun _ => some (.frz ({ cls := .none, data := .fields #[] } : Obj) (.dK []))) (fun _ => False) (List.replicate (i + 1) (some (.ref 0))) := ⟨0, _, [], by rw [List.getElem?_replicate]; simp, rfl, id, id⟩
/-- where the dict stands -/
theorem dic_at {T : Addr → Prop} {H : Hp} {σ : L2.St} {env : Env} {F : Nat → List Addr} {ks : List Key} {ds : List D} (r : RE G T H σ env F) (hi : env[i]? = some (some (.f (.dic ks ds)))) :
    ∃ a kvs, σ[i]? = some (some (.ref a)) ∧ ¬ T a ∧ (H a = some (.dK kvs) ∨ ∃ o, H a = some (.frz o (.dK kvs))) := by
  obtain ⟨v, h1, h2⟩ := r.slot i _ hi
  have fz : Fz G.K (hid T H) v (.dic ks ds) := h2.1
  cases fz with
  | dic q l f =>
    rcases q with q | ⟨o, q⟩
    · obtain ⟨q1, q2⟩ := hid_some q
      exact ⟨_, _, h1, q2, .inl q1⟩
    · obtain ⟨q1, q2⟩ := hid_some q
      exact ⟨_, _, h1, q2, .inr ⟨o, q1⟩⟩
theorem ge_fz (h : ∀ T H P σ, FzAt i T H P σ → GE X (gZ G T H P σ i) e w) : GE X G e (wFz i w) := by
  have mw : MonoE w := (h _ _ _ _ (fzAt_any i)).mono
  have pe0 : PE X e (fun σ H Q => ∃ T0 H0 P0 σ0, FzAt i T0 H0 P0 σ0 ∧ tW (gZ G T0 H0 P0 σ0 i) w σ H Q) := ⟨fun pins s σ H Q I ⟨T0, H0, P0, σ0, f, q⟩ => (h T0 H0 P0 σ0 f).pe.run pins s σ H Q I q⟩
  refine ⟨⟨fun pins s σ H Q I ⟨T, env, F, r, ⟨ks, ds, hi⟩, q⟩ => ?_⟩, fun env Q Q' i ⟨h, q⟩ => ⟨h, mw _ _ _ i q⟩⟩
  obtain ⟨a, kvs, h1, nT, hk⟩ := dic_at r hi
  have nP : ¬ OwnP env F a := fun z => nT (r.sub a z)
  rcases hk with hk | ⟨o, hk⟩
  · refine (pe_fz pe0).run pins s σ H Q I ⟨a, kvs, hk, fun o => ?_⟩
    have z : Zw T H _ _ a _ := zw_fz (o := o) hk nT
    refine ⟨T, upd H a (.frz o (.dK kvs)), OwnP env F, σ, ⟨a, o, kvs, h1, upd_same, nT, nP⟩, T, env, F, re_inZ r z, mw _ _ _ (fun s1 e1 q v T1 H1 F1 f1 a1 z1 => ?_) q⟩
    obtain ⟨e2, a2⟩ := att_backZ r z a1
    obtain ⟨_, nt', _⟩ := re_backZ r z a1.re
    exact ⟨e2, q v T1 _ F1 f1 a2 (res_backZ z e2 nt' z1)⟩
  · have z : Zw T H _ _ a _ := zw_id hk nT
    refine pe0.run pins s σ H Q I ⟨T, H, OwnP env F, σ, ⟨a, o, kvs, h1, hk, nT, nP⟩, T, env, F, re_inZ r z, mw _ _ _ (fun s1 e1 q v T1 H1 F1 f1 a1 z1 => ?_) q⟩
    obtain ⟨e2, a2⟩ := att_backZ r z a1
    obtain ⟨_, nt', _⟩ := re_backZ r z a1.re
    exact q v T1 _ F1 f1 a2 (res_backZ z e2 nt' z1)
theorem ress_backZ {T T' : Addr → Prop} {H Hz H' : Hp} {σ : L2.St} {env env' : Env} {F F' : Nat → List Addr} {th : Hp → Hp} {a : Addr} {fo : HO} {s : Sl} {v : V} {fr : List Addr} (r : RE G T H σ env F) (z : Zw T H Hz th a fo) (e : H' a = some fo) (nt' : ¬ T' a)
    (q : ResS (gZ G T Hz (OwnP env F) σ i) T' H' env' F' s v fr) : ResS G T' (th H') env' F' s v fr :=
  ⟨slr_sim rfl (sim_hid (z.thSim H' e)) (fun b _ h => z.thEq H' b fun y => nt' (by rw [← y]; exact h)) q.rel, q.nv, q.dis, fun o eo b hb => by
    rcases q.from_ o eo b hb with p | p
    · exact r.ow b p
    · refine .inr ?_
      have hb2 : H b = none := noneZ z p
      cases h0 : G.H0 b with
      | none => rfl
      | some u => exact absurd hb2 (r.st.dom b (by rw [h0]; exact nofun))⟩
theorem gs_fz (h : ∀ T H P σ, FzAt i T H P σ → GS X (gZ G T H P σ i) st ws) : GS X G st (wFzS i ws) := by
  have mw : MonoS ws := (h _ _ _ _ (fzAt_any i)).mono
  have ps0 : PS X st (fun D σ H => ∃ T0 H0 P0 σ0, FzAt i T0 H0 P0 σ0 ∧ tWS (gZ G T0 H0 P0 σ0 i) ws D σ H) := ⟨fun pins s σ H D I ⟨T0, H0, P0, σ0, f, q⟩ => (h T0 H0 P0 σ0 f).ps.run pins s σ H D I q⟩
  refine ⟨⟨fun pins s σ H D I ⟨T, env, F, r, ⟨ks, ds, hi⟩, q⟩ => ?_⟩, fun D D' env l ⟨h, q⟩ => ⟨h, mw _ _ _ l q⟩⟩
  obtain ⟨a, kvs, h1, nT, hk⟩ := dic_at r hi
  have nP : ¬ OwnP env F a := fun z => nT (r.sub a z)
  have exb : ∀ {Hz : Hp} {th : Hp → Hp} {fo : HO} {T1 : Addr → Prop} {H1 : Hp} {σ1 : L2.St} {e1 : Env} {F1 : Nat → List Addr}, Zw T H Hz th a fo → RE (gZ G T Hz (OwnP env F) σ i) T1 H1 σ1 e1 F1 → Ex (hid T H) (hid T1 (th H1)) := fun z r1 => by
    obtain ⟨_, _, c, _⟩ := re_backZ r z r1
    exact c.hid r.sub
  rcases hk with hk | ⟨o, hk⟩
  · refine (ps_fz ps0).run pins s σ H D I ⟨a, kvs, hk, fun o => ?_⟩
    have z : Zw T H _ _ a _ := zw_fz (o := o) hk nT
    refine ⟨T, upd H a (.frz o (.dK kvs)), OwnP env F, σ, ⟨a, o, kvs, h1, upd_same, nT, nP⟩, T, env, F, re_inZ r z, mw _ _ _ ⟨fun e1 q σ1 T1 H1 F1 r1 x1 => ?_, fun s1 e1 q v σ1 T1 H1 F1 fr r1 z1 => ?_, fun e1 q σ1 T1 H1 F1 r1 x1 => ?_, fun e1 q σ1 T1 H1 F1 r1 x1 => ?_⟩ q⟩
    · obtain ⟨e2, nt', _, r2⟩ := re_backZ r z r1
      exact ⟨e2, q σ1 T1 _ F1 r2 (exb z r1)⟩
    · obtain ⟨e2, nt', _, r2⟩ := re_backZ r z r1
      exact ⟨e2, q v σ1 T1 _ F1 fr r2 (ress_backZ r z e2 nt' z1)⟩
    · obtain ⟨e2, nt', _, r2⟩ := re_backZ r z r1
      exact ⟨e2, q σ1 T1 _ F1 r2 (exb z r1)⟩
    · obtain ⟨e2, nt', _, r2⟩ := re_backZ r z r1
      exact ⟨e2, q σ1 T1 _ F1 r2 (exb z r1)⟩
  · have z : Zw T H _ _ a _ := zw_id hk nT
    refine ps0.run pins s σ H D I ⟨T, H, OwnP env F, σ, ⟨a, o, kvs, h1, hk, nT, nP⟩, T, env, F, re_inZ r z, mw _ _ _ ⟨fun e1 q σ1 T1 H1 F1 r1 x1 => ?_, fun s1 e1 q v σ1 T1 H1 F1 fr r1 z1 => ?_, fun e1 q σ1 T1 H1 F1 r1 x1 => ?_, fun e1 q σ1 T1 H1 F1 r1 x1 => ?_⟩ q⟩
    · obtain ⟨e2, nt', _, r2⟩ := re_backZ r z r1
      exact q σ1 T1 _ F1 r2 (exb z r1)
    · obtain ⟨e2, nt', _, r2⟩ := re_backZ r z r1
      exact q v σ1 T1 _ F1 fr r2 (ress_backZ r z e2 nt' z1)
    · obtain ⟨e2, nt', _, r2⟩ := re_backZ r z r1
      exact q σ1 T1 _ F1 r2 (exb z r1)
    · obtain ⟨e2, nt', _, r2⟩ := re_backZ r z r1
      exact q σ1 T1 _ F1 r2 (exb z r1)
/-! its keys -/
def keyD : Key → D
  | .inl i => .int i
  | .inr x => .str x
def wiK (i : Nat) : WI := fun env Q => ∃ ks ds, env[i]? = some (some (.f (.dic ks ds))) ∧ Q (ks.map keyD) env
theorem itd_keys {K : PySem.W.Frag} {a : Addr} {o : Obj} {ks : List Key} {vs : List V} (hl : ks.length = vs.length) : ItD K (Itk a o (ks.zip vs)) (fun T H => hid T H a = some (.frz o (.dK (ks.zip vs)))) (ks.map keyD) where
  go := fun i T H t h hi => by
    have hz : (ks.zip vs).length = ks.length := by rw [List.length_zip, hl]; exact Nat.min_self _
    have hi' : i < ks.length := by simpa using hi
    refine ⟨⟨(hid_some h).1, by rw [hz]; exact hi'⟩, fun v H' ⟨e, k, w, hk, ev⟩ => ?_⟩
    subst e ev
    have hk' : ks[i]? = some k := by
      have := (List.getElem?_zip_eq_some.mp hk).1
      exact this
    refine ⟨keyD k, by rw [List.getElem?_map, hk'] <;> rfl, Ex.refl _, ?_⟩
    cases k with
    | inl j => exact .int j
    | inr x => exact .str x
  stop := fun i T H h hi => ⟨(hid_some h).1, by rw [hi, List.length_map, List.length_zip, hl]; exact Nat.le_of_eq (Nat.min_self _)⟩
  keep := fun T H T' H' h e => e _ _ h
theorem gi_keys {tg : Expr} {T : Addr → Prop} {H : Hp} {P : Addr → Prop} {σ : L2.St} (hz : FzAt i T H P σ) (hv : PE X e (tVar i)) : GI X (gZ G T H P σ i) tg e (wiK i) := by
  refine ⟨pi_imp (pi_keys hv) fun σ' H' R ⟨T1, env, F, r, ks, ds, hi, q⟩ => ?_, fun env Q Q' j ⟨ks, ds, h, q⟩ => ⟨ks, ds, h, j _ _ q⟩⟩
  obtain ⟨a, o, kvs, h1, h2, h3, h4⟩ := hz
  obtain ⟨v, e1, e2⟩ := r.slot i _ hi
  have p : σ'[i]? = σ[i]? := r.pin i (by show ((i == i) || G.prot i) = true; simp)
  rw [p, h1] at e1
  cases e1
  have ha : H' a = some (.frz o (.dK kvs)) := r.st.keep a _ h2 h4
  have fz : Fz G.K (hid T1 H') (.ref a) (.dic ks ds) := e2.1
  refine ⟨.ref a, by rw [p]; exact h1, a, o, rfl, .inl ⟨kvs, ha, ?_⟩⟩
  cases fz with
  | dic rd l f =>
    have hh : hid T1 H' a = some (.frz o (.dK kvs)) := by
      rcases rd with z | ⟨o', z⟩
      · rw [(hid_some z).1] at ha; cases ha
      · exact hid_of ha (hid_some z).2
    rename_i vs
    have ek : kvs = ks.zip vs := by
      rcases rd with z | ⟨o', z⟩
      · rw [hh] at z; cases z
      · rw [hh] at z; cases z; rfl
    subst ek
    exact q _ T1 H' F _ (.refl r) (itd_keys l) hh
end
end Fx

/-! Fx63: dicts of values: ==, pop, looks at an owned one -/
namespace Fx
open PySem PySem.Spec PyProof.Rows L2 Evl Lk
section
variable {X : Cx} {G : Gx}
end
/-! a dict that is looked at, whoever owns it -/
section
variable {X : Cx} {G : Gx} {o i e : Expr} {w w1 w2 : WE} {pos p : Pos} {j : Nat}
end
end Fx

/-! Fx64: for k, v in d.items(): a value's, an owned dict's -/
namespace Fx
open PySem PySem.Spec PyProof.Rows L2 Evl Lk
section
variable {K : PySem.W.Frag} {T : Addr → Prop} {H : Hp} {a : Addr} {o : Obj}
end
section
variable {X : Cx} {G : Gx} {e : Expr} {i : Nat} {elts : List Expr} {kk : Nat} {tpos apos cpos : Pos}
end
/-! the items of an owned dict: while they are walked its slot is empty -/
section
variable {X : Cx} {G : Gx} {tg iter e : Expr} {i : Nat} {elts : List Expr} {kk : Nat} {tpos apos cpos pos : Pos} {ds : List D}
end
section
variable {X : Cx} {G : Gx} {st : Stmt} {i : Nat} {ws : List (Key × D) → WS}
end
end Fx

/-! Fx65: enumerate(list, start=k); [a, b][i] of owned things; isinstance of a thing at a slot; for over dict values as statements -/
namespace Lk
open PySem PySem.Spec PyProof.Rows L2 Evl
end Lk
namespace Fx
open PySem PySem.Spec PyProof.Rows L2 Evl Lk
section
variable {X : Cx} {G : Gx} {wa : WA} {pos : Pos}
/-! [a, b, ..][i], what stands there is owned -/
/-! isinstance(x, t), x a name whatever it holds -/
end
end Fx

/-! Fx66: for over dict values as statements; what is left to show of Fx60 to Fx65 -/
namespace Fx
open PySem PySem.Spec PyProof.Rows L2 Evl Lk
section
variable {X : Cx} {G : Gx} {tg e : Expr} {i : Nat} {g : WG} {ws : WS} {body : List Stmt} {pos : Pos} {elts : List Expr} {kk : Nat} {tpos apos cpos : Pos}
theorem gs_forK (hv : PE X e (tVar i)) (hg : ∀ T H P σ, GG X (gZ G T H P σ i) tg g) (hb : ∀ T H P σ, GSs X (gZ G T H P σ i) body ws) (hp : PassesOwn (model X.prog X.w) X.A X.env X.xe) (hc : X.calm = true) (hs : ∀ x, foldedSetIterable e X.env x = pure x := by intro _; rfl) :
    GS X G (.For tg e body [] pos) (wFzS i (wFor (wiK i) g ws)) := gs_fz fun T H P σ hz => gs_for hp hc (gi_keys hz hv) (hg T H P σ) (hb T H P σ) hs
end
section
variable {env : Env} {Q : Sl → Env → Prop} {QL : List D → Env → Prop} {w w2 : WE} {wa : WA} {wi : WI} {v : WP} {D0 : WEnds} {i : Nat} {cs : List Nat} {g : WG} {ws : WS} {l : List (Key × D)} {o : OpC}
theorem x_fz (h0 : env[i]? = some (some (.f (dicD l)))) (h : w env Q) : wFz i w env Q := ⟨⟨_, _, h0⟩, h⟩
theorem x_fzS (h0 : env[i]? = some (some (.f (dicD l)))) (h : ws D0 env) : wFzS i ws D0 env := ⟨⟨_, _, h0⟩, h⟩
theorem x_iK (h0 : env[i]? = some (some (.f (dicD l)))) (h : QL ((l.map (·.1)).map keyD) env) : wiK i env QL := ⟨_, _, h0, h⟩
theorem x_allX {kp : Bool} (h : wi env fun ds e0 => ∃ pb : D → Bool, (∀ d ∈ ds, w (none :: some (.f d) :: cs.map (capE e0)) fun r _ => r = .f (.bl (pb d))) ∧ Q (.f (.bl (qAll kp ds pb))) e0) : wAllX wi cs kp w env Q := h
end
end Fx

namespace Fx
open PySem PySem.Spec PyProof.Rows L2 Evl Lk
/-! ### text.startswith(text) -/
section
variable {X : Cx} {G : Gx} {e : Expr} {w1 w2 : WE} {env : Env} {Q : Sl → Env → Prop}
end
end Fx

namespace Fx
open PySem PySem.Spec PyProof.Rows L2 Evl Lk
/-! ### xs.insert(i, e), xs owned -/
section
variable {X : Cx} {G : Gx} {wd : WAD}
end
/-! ### x + e, lists, the sum owned -/
section
variable {X : Cx} {G : Gx} {w1 w2 : WE} {a b : Expr} {pos : Pos}
end
/-! ### a == b, of dicts or of other things -/
section
variable {X : Cx} {G : Gx}
end
end Fx

namespace Fx
open PySem PySem.Spec PyProof.Rows L2 Evl Lk
/-! ### text.count(text) -/
section
variable {X : Cx} {G : Gx} {e : Expr} {w1 w2 : WE} {env : Env} {Q : Sl → Env → Prop}
end
end Fx

/-! Fx70: d.values() of a dict value, text.index(text) -/
namespace Fx
open PySem PySem.Spec PyProof.Rows L2 Evl Lk
section
variable {K : PySem.W.Frag} {a : Addr} {o : Obj}
end
section
variable {X : Cx} {G : Gx} {e tg : Expr} {i : Nat} {apos cpos : Pos} {w1 w2 : WE}
end
end Fx

/-! Fx71: sorted(list of texts), owned -/
namespace Fx
open PySem PySem.Spec PyProof.Rows L2 Evl Lk
section
variable {X : Cx} {G : Gx} {e : Expr} {w : WE} {p pos : Pos}
end
end Fx

/-! Fx72: xs.extend(e), xs owned, e a new list -/
namespace Fx
open PySem PySem.Spec PyProof.Rows L2 Evl Lk
section
variable {X : Cx} {G : Gx} {w : WE}
end
end Fx

/-! Fx73: sorted(rows), rows a list or a tuple of alike data; the result owned -/
namespace Fx
open PySem PySem.Spec PyProof.Rows L2 Evl Lk PySem.W
namespace ST
section
variable {prog : Program} {w : World} {A : Around} {E : Value → Shared → Prop} {s : Shared} {κ : PyProof.Rows.KeyKind}
end
section
variable {X : Cx}
end
end ST
section
variable {X : Cx} {G : Gx} {e : Expr} {w : WE} {p pos : Pos}
end
end Fx

/-! Fx74: a built-in function asked in two ways; str of anything, tuples too -/
namespace Fx
open PySem PySem.Spec PyProof.Rows L2 Evl Lk
section
variable {X : Cx} {G : Gx}
end
end Fx

/-! Fx75: dict(zip(texts, values)) -/
namespace Fx
open PySem PySem.Spec PyProof.Rows L2 Evl Lk
section
variable {X : Cx} {G : Gx}
end
end Fx

/-! Fx76: text[::-1] -/
namespace Fx
open PySem PySem.Spec PyProof.Rows L2 Evl Lk
section
variable {X : Cx} {G : Gx} {e : Expr} {w : WE}
end
end Fx

/-! Fx77: a, b = (x, y), stored from the right -/
namespace Fx
open PySem PySem.Spec PyProof.Rows L2 Evl Lk
section
variable {X : Cx} {G : Gx} {wd : WAD}
end
end Fx

/-! Fx78: an owned thing handed on as a value, which its name keeps -/
namespace Fx
open PySem PySem.Spec PyProof.Rows L2 Evl Lk
section
variable {X : Cx} {G : Gx} {e : Expr}
end
end Fx

/-! Fx79: a def called with an owned thing lent as its second value, which stays owned (what comes back is flat) -/
namespace Fx
open PySem PySem.Spec PyProof.Rows L2 Evl Lk
def flatD : D → Bool
  | .non | .bl _ | .int _ | .str _ => true
  | _ => false
def wCallL (i : Nat) (W : WFn) (w : WE) : WE := fun env Q => w env fun r e => ∃ d0, r = .f d0 ∧ ∃ o d, e[i]? = some (some (.own o)) ∧ o.cd = some d ∧ W [d0, d] fun r => ∃ t, r = .f t ∧ flatD t = true ∧ Q r e
section
variable {X : Cx} {G : Gx} {e e2 : Expr} {x : Str} {k j i : Nat} {tabs : List Addr} {p pos : Pos} {w : WE} {W : WFn}
theorem fz_flat {K : PySem.W.Frag} {H H' : Hp} {v : V} {d : D} (f : flatD d = true) (h : Fz K H v d) : Fz K H' v d := by
  cases d with
  | non => cases h; exact .non
  | bl b => cases h; exact .bl b
  | int i => cases h; exact .int i
  | str s => cases h; exact .str s
  | _ => cases f
theorem mono_callL (mw : MonoE w) (mW : MonoF W) : MonoE (wCallL i W w) := fun env Q Q' j q => mw _ _ _ (fun r e ⟨d0, h0, o, d, h1, h2, h3⟩ => ⟨d0, h0, o, d, h1, h2, mW _ _ _ (fun r ⟨t, a, b, q⟩ => ⟨t, a, b, j _ _ q⟩) h3⟩) q
theorem ge_callL (c : Cal X.prog X.w X.K X.mg X.base k x (spW X.K tabs (liftF W))) (hr : Room j X.A) (hk : k ≤ j) (hg : Gl X x) (hK : X.K = G.K) (ht : tabs = G.tabs) (mW : MonoF W) (ha : GE X G e w) (hv : PE X e2 (tVar i))
    (hs : starEach [e, e2] X.env = (false, eval e X.env) :: starEach [e2] X.env := by rfl) (hs2 : starEach [e2] X.env = (false, eval e2 X.env) :: starEach [] X.env := by rfl)
    (hdb : (x == ("__debug__" : Str)) = false := by decide) (hpl : (backTo pos (starEach [e2] X.env)).any (·.1) = false := by rfl) :
    GE X G (.Call (.Name x p) [e, e2] [] pos) (wCallL i W w) := by
  subst ht
  have hga : GA X G [e, e2] (waCons w (waSlot i true waNil)) := ga_cons ha (ga_slot hv ga_nil hs2) hs
  refine ⟨pe_imp (pe_c c hr hk hg hga.pa hdb hs hpl) fun σ H Q ⟨T, env, F, r, q⟩ => ⟨T, env, F, r, ha.mono _ _ _ (fun rr e1 ⟨d0, h0, o, d, h1, h2, h3⟩ => ?_) q⟩, mono_callL ha.mono mW⟩
  subst h0
  refine ⟨nofun, ⟨_, h1⟩, fun vs T1 H1 F1 Fa a1 z1 => ?_⟩
  show spW X.K G.tabs (liftF W) (vs ++ []) H1 Q E0
  rw [List.append_nil, hK]
  have r1 := a1.re
  obtain ⟨v0, g0, z0, _⟩ := z1.val 0 (.f d0) rfl
  obtain ⟨v1', s1, g1⟩ := z1.slt 1 i true rfl
  obtain ⟨v1, s2, ow⟩ := r1.slot i _ h1
  rw [s2] at s1
  cases s1
  have ow : Ow G.K T1 H1 o v1' (F1 i) := ow
  have hvs : vs = [v0, v1'] := by
    have hl := z1.len
    match vs, hl, g0, g1 with
    | [a, b], _, g0, g1 =>
      cases g0
      cases g1
      rfl
  subst hvs
  have subF : ∀ a ∈ F1 i, T1 a := fun a ha => r1.sub a ⟨i, ⟨o, h1⟩, ha⟩
  have e0 : Ex (hid T1 H1) (hid (fun a => T1 a ∧ a ∉ F1 i) H1) := fun a u h => hid_of (hid_some h).1 fun n => (hid_some h).2 n.1
  refine ⟨fun a => T1 a ∧ a ∉ F1 i, [.f d0, .f d], fun _ => [], ⟨fun a ha => r1.trk a ha.1, fun p hp => ⟨(r1.tab p hp).1, fun h => (r1.tab p hp).2 h.1⟩, fun j s hj => ?_, fun j k' n ⟨o, hj⟩ => ?_, .refl fun a ha => r1.trk a ha.1, fun a ⟨j, ⟨o, hj⟩, ha⟩ => (nomatch ha), fun a ha => r1.trk a ha.1, fun _ _ => rfl, rfl, ex_none⟩, [d0, d], rfl, ?_⟩
  · match j, hj with
    | 0, hj => cases hj; exact ⟨v0, rfl, z0.1.ex e0, rfl⟩
    | 1, hj => cases hj; exact ⟨v1', rfl, ow.frz h2, rfl⟩
  · match j, hj with
    | 0, hj => cases hj
    | 1, hj => cases hj
  refine mW _ _ _ (fun rs ⟨t, et, ft, q⟩ v T' H' F' fr r' _ zs => ?_) h3
  subst et
  have st := r'.st
  have nP : ∀ a, ¬ OwnP ([Sl.f d0, Sl.f d].map some) (fun _ => []) a := fun a ⟨j, _, ha⟩ => (nomatch ha)
  have ch : Chg T1 H1 (fun _ => False) (fun a => T' a ∨ a ∈ F1 i) H' := by
    refine ⟨fun a u h _ => st.keep a u h (nP a), fun a ha _ => ?_, fun a ha => ?_, fun a ha => ?_, st.dom⟩
    · by_cases hf : a ∈ F1 i
      · exact .inr hf
      · exact .inl (st.tk a ⟨ha, hf⟩ (nP a))
    · rcases ha with ha | ha
      · exact (st.tf a ha).imp (fun h => h.1) id
      · exact .inl (subF a ha)
    · rcases ha with ha | ha
      · exact st.tr a ha
      · exact st.dom a (r1.trk a (subF a ha))
  have re := r1.chg ch (fun _ h => h.elim) (fun _ h => h.elim) fun _ _ _ _ h => h
  have a2 : Att G σ T1 H1 e1 F1 (fun a => T' a ∨ a ∈ F1 i) H' e1 F1 := ⟨⟨fun a u h _ => ch.keep a u h id, fun a h _ => ch.tk a h id, ch.tf, ch.tr, ch.dom⟩, re, fun _ h => .inl h, fun _ _ h => ⟨h, rfl⟩⟩
  have zr : Fz G.K (hid T' H') v t ∧ fr = [] := zs.rel
  exact q v _ H' F1 fr (a1.trans r.trk a2) ⟨⟨fz_flat ft zr.1, zr.2⟩, nofun, nofun⟩
theorem x_callL {env : Env} {Q : Sl → Env → Prop} (h : w env fun r e => ∃ d0, r = .f d0 ∧ ∃ o d, e[i]? = some (some (.own o)) ∧ o.cd = some d ∧ W [d0, d] fun r => ∃ t, r = .f t ∧ flatD t = true ∧ Q r e) : wCallL i W w env Q := h
end
end Fx

/-! Fx80: targets of a pair that are no names: x[i], x[j] = .. -/
namespace Fx
open PySem PySem.Spec PyProof.Rows L2 Evl Lk
section
variable {X : Cx} {G : Gx} {e : Expr} {es : List Expr} {g : WG} {u : WGs}
theorem ggs_consG (h : GG X G e g) (h2 : GGs X G es u) (hs : (assignEach (e :: es) X.env).map (·.2) = assign e X.env :: (assignEach es X.env).map (·.2) := by rfl) : GGs X G (e :: es) (gsCons g u) := by
  refine ⟨⟨fun pins s σ H vs us Q I rv ⟨T, env, F, ds, r, fz, d, dr, hd, q⟩ => (pgs_cons h.pg h2.pg hs).run pins s σ H vs us Q I rv ?_⟩, fun d env Q Q' i ⟨d1, dr, hd, q⟩ => ⟨d1, dr, hd, h.mono _ _ _ _ (fun e q => h2.mono _ _ _ _ i q) q⟩⟩
  subst hd
  cases fz with
  | cons f1 f2 =>
    refine ⟨_, _, rfl, T, env, F, d, r, f1, h.mono _ _ _ _ (fun e1 q σ1 T1 H1 F1 r1 x1 => ?_) q⟩
    exact ⟨T1, e1, F1, dr, r1, f2.ex x1, h2.mono _ _ _ _ (fun e2 q σ2 T2 H2 F2 r2 x2 => q σ2 T2 H2 F2 r2 (x1.trans x2)) q⟩
end
end Fx

/-! Fx81: list(tuple), owned -/
namespace Fx
open PySem PySem.Spec PyProof.Rows L2 Evl Lk
def wListO (w : WE) : WE := fun env Q => w env fun r e => ∃ ds, r = .f (.tup ds) ∧ Q (.own (.lst ds)) e
section
variable {X : Cx} {G : Gx} {e : Expr} {w : WE} {p pos : Pos}
theorem ge_listO (hg : Gl X "list") (hm : X.mg "list" = none) (he : GE X G e w) (hst : starEach [e] X.env = (false, eval e X.env) :: starEach [] X.env := by rfl) (hK : X.K = G.K := by rfl) : GE X G (.Call (.Name "list" p) [e] [] pos) (wListO w) := by
  refine ⟨pe_imp (pe_callTy call_list_of hg hm rfl (pa_cons he.pe pa_nil hst) (by decide) (by decide) hst rfl) fun σ H Q ⟨T, env, F, r, q⟩ => ?_, fun env Q Q' i q => he.mono _ _ _ (fun s e ⟨ds, h1, q⟩ => ⟨ds, h1, i _ _ q⟩) q⟩
  refine ⟨T, env, F, r, he.mono _ _ _ (fun s e ⟨ds, h1, q⟩ x T1 H1 F1 f1 a1 z1 => ?_) q⟩
  subst h1
  have zr := z1.rel.1
  cases zr with
  | tup l f =>
    refine ⟨_, _, rfl, .inr (by rw [hK]; exact ex_t hid_ex l), fun p np => ?_⟩
    exact q _ _ _ F1 [p] (a1.trans r.trk (att_new a1.re np)) (res_trans r.trk a1 (own_new a1.re np (.lst (.inr rfl) upd_same (f.ex (hid_new np)))))
theorem x_listO {env : Env} {Q : Sl → Env → Prop} (h : w env fun r e => ∃ ds, r = .f (.tup ds) ∧ Q (.own (.lst ds)) e) : wListO w env Q := h
end
end Fx

namespace K75
open PySem PySem.Spec PyProof.Rows L2 Lk Evl Fx



def topS (i : Nat) : Stmt := PySem.Challenge.pw_leavechain_k75_what_is_a_plan.main.body.getD i (.Pass ⟨0, 0, 0, 0⟩)
abbrev s_is_whole : Stmt := topS 7
theorem sc_is_whole : FnScope ["thing"] ["thing"] (defScope s_is_whole) := ⟨rfl, rfl, rfl, by decide +kernel, rfl, by decide +kernel, by decide +kernel⟩
abbrev s_is_between : Stmt := topS 8
theorem sc_is_between : FnScope ["thing", "least", "most"] ["thing", "least", "most"] (defScope s_is_between) := ⟨rfl, rfl, rfl, by decide +kernel, rfl, by decide +kernel, by decide +kernel⟩
abbrev s_is_moment : Stmt := topS 9
theorem sc_is_moment : FnScope ["thing"] ["thing"] (defScope s_is_moment) := ⟨rfl, rfl, rfl, by decide +kernel, rfl, by decide +kernel, by decide +kernel⟩
abbrev s_is_span : Stmt := topS 10
theorem sc_is_span : FnScope ["since", "until"] ["since", "until"] (defScope s_is_span) := ⟨rfl, rfl, rfl, by decide +kernel, rfl, by decide +kernel, by decide +kernel⟩
abbrev s_is_name : Stmt := topS 11
theorem sc_is_name : FnScope ["thing"] ["thing"] (defScope s_is_name) := ⟨rfl, rfl, rfl, by decide +kernel, rfl, by decide +kernel, by decide +kernel⟩
abbrev s_is_deeds : Stmt := topS 12
theorem sc_is_deeds : FnScope ["thing"] ["thing"] (defScope s_is_deeds) := ⟨rfl, rfl, rfl, by decide +kernel, rfl, by decide +kernel, by decide +kernel⟩
abbrev s_is_leave : Stmt := topS 22
theorem sc_is_leave : FnScope ["thing", "number", "room", "deeds", "giver", "holder", "since", "until", "passes", "under"] ["thing"] (defScope s_is_leave) := ⟨rfl, rfl, rfl, by decide +kernel, rfl, by decide +kernel, by decide +kernel⟩
abbrev s_lies_within : Stmt := topS 23
theorem sc_lies_within : FnScope ["leave", "other"] ["leave", "other"] (defScope s_lies_within) := ⟨rfl, rfl, rfl, by decide +kernel, rfl, by decide +kernel, by decide +kernel⟩
abbrev s_is_plan : Stmt := topS 26
theorem sc_is_plan : FnScope ["trust", "thing", "part", "holders", "row", "wish"] ["trust", "thing"] (defScope s_is_plan) := ⟨rfl, rfl, rfl, by decide +kernel, rfl, by decide +kernel, by decide +kernel⟩
abbrev s__is_planned : Stmt := topS 27
theorem sc__is_planned : FnScope ["thing"] ["thing"] (defScope s__is_planned) := ⟨rfl, rfl, rfl, by decide +kernel, rfl, by decide +kernel, by decide +kernel⟩
abbrev s__made_leave : Stmt := topS 28
theorem sc__made_leave : FnScope ["row", "giver", "holder", "deeds", "since", "until", "passes"] ["row"] (defScope s__made_leave) := ⟨rfl, rfl, rfl, by decide +kernel, rfl, by decide +kernel, by decide +kernel⟩
abbrev s__has_tie : Stmt := topS 29
theorem sc__has_tie : FnScope ["trust", "row", "since", "until", "ties", "tie"] ["trust", "row"] (defScope s__has_tie) := ⟨rfl, rfl, rfl, by decide +kernel, rfl, by decide +kernel, by decide +kernel⟩
abbrev s__has_giver : Stmt := topS 30
theorem sc__has_giver : FnScope ["trust", "plan", "row", "other"] ["trust", "plan", "row"] (defScope s__has_giver) := ⟨rfl, rfl, rfl, by decide +kernel, rfl, by decide +kernel, by decide +kernel⟩
abbrev s__is_granted : Stmt := topS 31
theorem sc__is_granted : FnScope ["plan", "wish", "actor", "deeds", "since", "until", "_", "holder", "granted", "first", "last", "deed"] ["plan", "wish"] (defScope s__is_granted) := ⟨rfl, rfl, rfl, by decide +kernel, rfl, by decide +kernel, by decide +kernel⟩
abbrev s__law_cell_at : Stmt := topS 33
theorem sc__law_cell_at : FnScope ["script", "k"] ["script", "k"] (defScope s__law_cell_at) := ⟨rfl, rfl, rfl, by decide +kernel, rfl, by decide +kernel, by decide +kernel⟩
abbrev s__law_pool : Stmt := topS 34
theorem sc__law_pool : FnScope ["cell", "place"] ["cell", "place"] (defScope s__law_pool) := ⟨rfl, rfl, rfl, by decide +kernel, rfl, by decide +kernel, by decide +kernel⟩
abbrev s__law_draw : Stmt := topS 35
theorem sc__law_draw : FnScope ["pool", "many", "stir", "found"] ["pool", "many"] (defScope s__law_draw) := ⟨rfl, rfl, rfl, by decide +kernel, rfl, by decide +kernel, by decide +kernel⟩
abbrev s__law_names : Stmt := topS 36
theorem sc__law_names : FnScope ["pool", "many", "letters", "names", "k", "word", "j", "one", "letter"] ["pool", "many"] (defScope s__law_names) := ⟨rfl, rfl, rfl, by decide +kernel, rfl, by decide +kernel, by decide +kernel⟩
abbrev s__law_span : Stmt := topS 37
theorem sc__law_span : FnScope ["pool", "way", "since"] ["pool", "way"] (defScope s__law_span) := ⟨rfl, rfl, rfl, by decide +kernel, rfl, by decide +kernel, by decide +kernel⟩
abbrev s__law_trust : Stmt := topS 38
theorem sc__law_trust : FnScope ["pool", "most", "names", "kind", "ties", "k", "one", "other", "left", "wishes", "actor", "since", "deeds"] ["pool", "most"] (defScope s__law_trust) := ⟨rfl, rfl, rfl, by decide +kernel, rfl, by decide +kernel, by decide +kernel⟩
abbrev s__law_others : Stmt := topS 39
theorem sc__law_others : FnScope ["trust", "names", "wish", "tie", "name"] ["trust"] (defScope s__law_others) := ⟨rfl, rfl, rfl, by decide +kernel, rfl, by decide +kernel, by decide +kernel⟩
abbrev s__law_lies : Stmt := topS 40
theorem sc__law_lies : FnScope ["trust", "giver", "holder", "since", "until", "some", "tie"] ["trust", "giver", "holder", "since", "until"] (defScope s__law_lies) := ⟨rfl, rfl, rfl, by decide +kernel, rfl, by decide +kernel, by decide +kernel⟩
abbrev s__law_up : Stmt := topS 41
theorem sc__law_up : FnScope ["case", "actor", "found", "here"] ["case", "actor"] (defScope s__law_up) := ⟨rfl, rfl, rfl, by decide +kernel, rfl, by decide +kernel, by decide +kernel⟩
abbrev s__law_below : Stmt := topS 42
theorem sc__law_below : FnScope ["trust", "case", "actor", "wish"] ["trust", "case", "actor"] (defScope s__law_below) := ⟨rfl, rfl, rfl, by decide +kernel, rfl, by decide +kernel, by decide +kernel⟩
abbrev s__law_fits : Stmt := topS 43
theorem sc__law_fits : FnScope ["trust", "case", "actor", "some", "first", "wish"] ["trust", "case"] (defScope s__law_fits) := ⟨rfl, rfl, rfl, by decide +kernel, rfl, by decide +kernel, by decide +kernel⟩
abbrev s__law_next : Stmt := topS 44
theorem sc__law_next : FnScope ["trust", "case", "settled", "pair", "name", "wish"] ["trust", "case"] (defScope s__law_next) := ⟨rfl, rfl, rfl, by decide +kernel, rfl, by decide +kernel, by decide +kernel⟩
abbrev s__law_tied : Stmt := topS 45
theorem sc__law_tied : FnScope ["trust", "actor", "tie"] ["trust", "actor"] (defScope s__law_tied) := ⟨rfl, rfl, rfl, by decide +kernel, rfl, by decide +kernel, by decide +kernel⟩
abbrev s__law_case : Stmt := topS 46
theorem sc__law_case : FnScope ["pool", "trust", "case", "goal", "some", "found"] ["pool", "trust"] (defScope s__law_case) := ⟨rfl, rfl, rfl, by decide +kernel, rfl, by decide +kernel, by decide +kernel⟩
abbrev s__law_passed : Stmt := topS 47
theorem sc__law_passed : FnScope ["case", "actor", "found", "other", "way"] ["case", "actor"] (defScope s__law_passed) := ⟨rfl, rfl, rfl, by decide +kernel, rfl, by decide +kernel, by decide +kernel⟩
abbrev s__law_rows : Stmt := topS 48
theorem sc__law_rows : FnScope ["trust", "case", "found", "actor", "some", "deeds", "deed", "wish", "first", "last"] ["trust", "case"] (defScope s__law_rows) := ⟨rfl, rfl, rfl, by decide +kernel, rfl, by decide +kernel, by decide +kernel⟩
abbrev s__law_drawn_rows : Stmt := topS 49
theorem sc__law_drawn_rows : FnScope ["pool", "trust", "turn", "case"] ["pool", "trust"] (defScope s__law_drawn_rows) := ⟨rfl, rfl, rfl, by decide +kernel, rfl, by decide +kernel, by decide +kernel⟩
abbrev s__law_within : Stmt := topS 50
theorem sc__law_within : FnScope ["row", "other", "giver", "holder", "deeds", "since", "until", "passes", "deed"] ["row", "other"] (defScope s__law_within) := ⟨rfl, rfl, rfl, by decide +kernel, rfl, by decide +kernel, by decide +kernel⟩
abbrev s__law_is_plan : Stmt := topS 51
theorem sc__law_is_plan : FnScope ["trust", "rows", "holders", "row", "giver", "holder", "deeds", "since", "until", "passes", "over", "other", "actor", "some", "deed"] ["trust", "rows"] (defScope s__law_is_plan) := ⟨rfl, rfl, rfl, by decide +kernel, rfl, by decide +kernel, by decide +kernel⟩
abbrev s__law_is_name : Stmt := topS 52
theorem sc__law_is_name : FnScope ["thing", "sign"] ["thing"] (defScope s__law_is_name) := ⟨rfl, rfl, rfl, by decide +kernel, rfl, by decide +kernel, by decide +kernel⟩
abbrev s__law_is_span : Stmt := topS 53
theorem sc__law_is_span : FnScope ["since", "until"] ["since", "until"] (defScope s__law_is_span) := ⟨rfl, rfl, rfl, by decide +kernel, rfl, by decide +kernel, by decide +kernel⟩
abbrev s__law_is_deeds : Stmt := topS 54
theorem sc__law_is_deeds : FnScope ["deeds"] ["deeds"] (defScope s__law_is_deeds) := ⟨rfl, rfl, rfl, by decide +kernel, rfl, by decide +kernel, by decide +kernel⟩
abbrev s__law_forms : Stmt := topS 55
theorem sc__law_forms : FnScope ["rows", "giver", "holder", "deeds", "since", "until", "passes"] ["rows"] (defScope s__law_forms) := ⟨rfl, rfl, rfl, by decide +kernel, rfl, by decide +kernel, by decide +kernel⟩
abbrev s__law_truth : Stmt := topS 56
theorem sc__law_truth : FnScope ["found", "due"] ["found", "due"] (defScope s__law_truth) := ⟨rfl, rfl, rfl, by decide +kernel, rfl, by decide +kernel, by decide +kernel⟩
abbrev s__law_part : Stmt := topS 57
theorem sc__law_part : FnScope ["pool", "trust", "row", "names", "name", "words", "way", "more", "spot"] ["pool", "trust", "row"] (defScope s__law_part) := ⟨rfl, rfl, rfl, by decide +kernel, rfl, by decide +kernel, by decide +kernel⟩
abbrev s__law_bent : Stmt := topS 58
theorem sc__law_bent : FnScope ["pool", "trust", "rows", "way", "actor", "deeds", "since", "until", "at", "to", "row", "ahead", "one", "some", "spot"] ["pool", "trust", "rows"] (defScope s__law_bent) := ⟨rfl, rfl, rfl, by decide +kernel, rfl, by decide +kernel, by decide +kernel⟩
abbrev s_law : Stmt := topS 59
theorem sc_law : FnScope ["script", "k", "pool", "trust", "rows", "turn", "other", "lap", "due"] ["script"] (defScope s_law) := ⟨rfl, rfl, rfl, by decide +kernel, rfl, by decide +kernel, by decide +kernel⟩
local macro_rules | `(tactic| walk_at "sz") => `(tactic| first
  | exact Nat.le_of_ble_eq_true rfl
  | assumption
  | exact small_sz (Nat.le_of_ble_eq_true rfl)
  | (simp only [List.length_cons, List.length_nil, List.length_map, List.length_append]; first | omega | exact small_sz (by omega)))
local macro_rules | `(tactic| walk_at "x1") => `(tactic| first
  | with_reducible refine x_seq ?_
  | (with_reducible show wVar _ _ _); first | refine x_varF rfl ?_ | refine x_varO rfl ?_ | refine x_varV rfl ?_
  | with_reducible refine x_c ?_
  | with_reducible refine x_exf ?_
  | with_reducible refine x_excd ?_
  | (with_reducible show ∃ d1, Sl.cd (Sl.vw _) = some d1 ∧ _); refine x_excV rfl ?_
  | (with_reducible show ∃ d1, Sl.cd (Sl.own _) = some d1 ∧ _); refine x_excO rfl ?_
  | with_reducible refine x_binP ?_
  | with_reducible refine x_bin ?_
  | with_reducible refine x_adC ?_
  | with_reducible refine x_adN ?_
  | with_reducible refine x_lst ?_
  | with_reducible refine x_tup ?_
  | with_reducible refine x_lstO ?_
  | (with_reducible refine x_and (p := _ ≤ sizeLine) ?h ?_); (case h => walk_at "sz")
  | with_reducible refine x_callF ?_
  | with_reducible refine x_callL ?_
  | with_reducible refine x_listO ?_
  | (with_reducible show wCallU _ _ _ _ _); refine x_callU rfl ?_
  | with_reducible refine x_callV ?_
  | with_reducible refine x_join ?_
  | with_reducible refine x_waD ?_
  | with_reducible refine x_lc ?_
  | with_reducible refine x_lc2 ?_
  | with_reducible refine x_lenSets ?_
  | (with_reducible show wApp _ _ _ _); refine x_app rfl ?_
  | (with_reducible show wBinV _ _ _ _ _); refine x_binV rfl ?_
  | (with_reducible show wPopD _ _ _ _); refine x_popD rfl ?_
  | (with_reducible show wCatV _ _ _ _); refine x_catV rfl ?_
  | with_reducible refine x_slN2 ?_
  | with_reducible refine x_sortedSets ?_
  | with_reducible refine x_tplL ?_
  | with_reducible refine x_tplT ?_
  | with_reducible refine x_isB ?_
  | with_reducible refine x_r1 ?_
  | with_reducible refine x_r2 ?_
  | (with_reducible refine x_r1e ?h0 ?h1 ?_); (case h0 => omega); (case h1 => omega)
  | with_reducible refine x_iL ?_
  | with_reducible refine x_iT ?_
  | with_reducible refine x_iS ?_
  | with_reducible refine x_iE ?_
  | with_reducible refine x_iEe ?_
  | with_reducible refine x_yes ?_
  | with_reducible refine x_for ?_
  | (with_reducible show wLot _ [D.int _] _); (refine' x_lot (by assumption) ?h1 ?h2 ?h3 ?_); (case h1 => omega); (case h2 => first | decide | omega); (case h3 => first | decide | omega)
  | (with_reducible show ∃ o, _ = some (some (Sl.own o)) ∧ _); refine x_exO rfl ?_
  | with_reducible refine x_exo ?_
  | with_reducible refine x_ret ?_
  | with_reducible refine x_set ?_
  | with_reducible refine x_fin ?_
  | with_reducible refine x_fino ?_
  | (with_reducible refine x_and (p := _ < List.length _) ?h ?_); (case h => exact Nat.le_of_ble_eq_true rfl); (try dsimp only [List.set_cons_succ, List.set_cons_zero])
  | with_reducible refine x_next ?_
  | with_reducible refine x_retN ?_
  | with_reducible refine x_drop ?_
  | with_reducible refine x_asg ?_
  | (with_reducible refine x_gtp ?h ?_); (case h => rfl)
  | with_reducible refine x_gcons ?_
  | with_reducible refine x_gnil ?_
  | (with_reducible refine x_gn ?h ?_); (case h => exact Nat.le_of_ble_eq_true rfl); (try dsimp only [List.set_cons_succ, List.set_cons_zero])
  | with_reducible refine x_ifS ?_
  | with_reducible refine x_if ?_
  | with_reducible refine x_itT ?_
  | with_reducible refine x_itF ?_
  | with_reducible refine x_iteN ?_
  | with_reducible refine x_tru ?_
  | with_reducible refine x_tB ?_
  | with_reducible refine x_dtB ?_
  | with_reducible refine x_dtN ?_
  | with_reducible refine x_exb ?_
  | with_reducible refine x_exdb ?_
  | with_reducible refine x_tand ?_
  | with_reducible refine x_tor ?_
  | with_reducible refine x_tnot ?_
  | with_reducible refine x_and2 ?_
  | with_reducible refine x_or2 ?_
  | with_reducible refine x_not2 ?_
  | with_reducible refine x_chain ?_
  | with_reducible refine x_sub ?_
  | with_reducible refine x_addI ?_
  | (with_reducible refine x_addS ?h ?_); (case h => walk_at "sz")
  | (with_reducible refine x_addL ?h ?_); (case h => walk_at "sz")
  | (with_reducible refine x_addT ?h ?_); (case h => walk_at "sz")
  | with_reducible refine x_lt ?_
  | with_reducible refine x_le ?_
  | with_reducible refine x_gt ?_
  | with_reducible refine x_ge ?_
  | with_reducible refine x_ltS ?_
  | with_reducible refine x_eqI ?_
  | with_reducible refine x_neI ?_
  | with_reducible refine x_allSg ?_
  | with_reducible refine x_m0 ?_
  | with_reducible refine x_lstT ?_
  | with_reducible refine x_lstL ?_
  | with_reducible refine x_strB ?_
  | with_reducible refine x_strN ?_
  | with_reducible refine x_strS ?_
  | with_reducible refine x_isT ?_
  | with_reducible refine x_isI ?_
  | with_reducible refine x_neg ?_
  | with_reducible refine x_un ?_
  | (with_reducible refine x_pow ?h ?_); (case h => exact ⟨by decide, by decide +kernel⟩)
  | (with_reducible refine x_mod ?h ?_); (case h => first | decide | omega)
  | (with_reducible refine x_mul ?h ?_); (case h => exact mul_ok (by first | decide | omega) (by first | decide | omega))
  | (with_reducible refine x_div ?h ?_); (case h => exact div_ok (by first | decide | omega) (by first | decide | omega))
  | with_reducible refine x_ipA ?_
  | (with_reducible show wAugL _ _ _ _ _ _); refine x_augL rfl ?_
  | (with_reducible show wAug _ _ _ _ _); refine x_aug rfl ?_
  | (with_reducible show ∃ k' ds d, Sl.f (D.int _) = Sl.f (D.int k') ∧ _); refine x_augL1 rfl (by decide) rfl ?_
  | (with_reducible show ∃ k' j ds, Sl.f (D.int _) = Sl.f (D.int k') ∧ _ = some (some (Sl.own (O.lst ds))) ∧ ixN _ k' = some j ∧ _); refine x_setL1 rfl rfl ?_; (try dsimp only [List.set_cons_succ, List.set_cons_zero])
  | (with_reducible show ∃ ds j, _ = some (some (Sl.own (O.lst ds))) ∧ ixN _ _ = some j ∧ _); refine x_augL2 rfl rfl ?_; (try dsimp only [List.set_cons_succ, List.set_cons_zero])
  | (with_reducible show gSetL _ _ _ _ _); refine x_setL rfl ?_
  | (with_reducible show dIx (D.lst _) (D.int _) _); refine x_ixL rfl ?_
  | (with_reducible show dIx (D.tup _) (D.int _) _); refine x_ixT rfl ?_
  | with_reducible refine x_cb ?_
  | (with_reducible show wCB1 _ _ _ _); refine x_cb1 rfl rfl ?_
  | with_reducible refine x_fm ?_
  | with_reducible refine x_exl ?_
  | with_reducible refine x_ext ?_
  | with_reducible refine x_exs ?_
  | with_reducible refine x_exi ?_
  | with_reducible refine x_sl ?_
  | with_reducible refine x_slN ?_
  | with_reducible refine x_slS ?_
  | with_reducible refine x_frz ?_
  | with_reducible refine x_frL ?_
  | with_reducible refine x_revT ?_
  | with_reducible refine x_revL ?_
  | with_reducible refine x_splitO ?_
  | (with_reducible show wSlO _ _ _ _ _); refine x_slO rfl ?_
  | (with_reducible show ∃ ds2, _ = some (some (Sl.own (O.lst ds2))) ∧ _); refine x_exOl rfl ?_
  | with_reducible refine x_dictO ?_
  | with_reducible refine x_psC ?_
  | with_reducible refine x_psN ?_
  | with_reducible refine x_get ?_
  | (with_reducible show gSetSl _ _ _ _ _ _); refine x_setSl rfl ?_
  | with_reducible refine x_split ?_
  | with_reducible refine x_isN1 ?_
  | with_reducible refine x_isN0 rfl ?_
  | with_reducible refine x_iZ ?_
  | with_reducible refine x_zT ?_
  | with_reducible refine x_zL ?_
  | with_reducible refine x_stp ?_
  | with_reducible refine x_js ?_
  | with_reducible refine x_jsC ?_
  | with_reducible refine x_jsN ?_
  | with_reducible refine x_fmt ?_
  | with_reducible refine x_callFX ?_
  | (with_reducible refine x_glp ?h ?_); (case h => rfl)
  | with_reducible refine x_raiseR ?_
  | with_reducible refine x_row ?_
  | with_reducible refine x_lenL ?_
  | with_reducible refine x_lenT ?_
  | with_reducible refine x_lenD ?_
  | (with_reducible refine x_lenS ?h ?_); (case h => walk_at "sz")
  | with_reducible refine x_max ?_
  | with_reducible refine x_min ?_
  | with_reducible refine x_intI ?_
  | with_reducible refine x_intB ?_
  | (with_reducible refine x_isInt ?h ?_); (case h => first | assumption | exact part_ty (by assumption) | (intro _ hh; cases hh; done))
  | (with_reducible refine x_isBl ?h ?_); (case h => first | assumption | exact part_ty (by assumption) | (intro _ hh; cases hh; done))
  | (with_reducible refine x_isStr ?h ?_); (case h => first | assumption | exact part_ty (by assumption) | (intro _ hh; cases hh; done))
  | (with_reducible refine x_isTup ?h ?_); (case h => first | assumption | exact part_ty (by assumption) | (intro _ hh; cases hh; done))
  | (with_reducible refine x_isLst ?h ?_); (case h => first | assumption | exact part_ty (by assumption) | (intro _ hh; cases hh; done))
  | (with_reducible refine x_isDic ?h ?_); (case h => first | assumption | exact part_ty (by assumption) | (intro _ hh; cases hh; done))
  | (with_reducible refine x_itTe ?e ?_); (case e => rfl)
  | (with_reducible refine x_itFe ?e ?_); (case e => rfl)
  | with_reducible refine x_dnewO ?_
  | with_reducible refine x_dput ?_
  | with_reducible refine x_dix ?_
  | with_reducible refine x_sortedD ?_
  | with_reducible refine x_star ?_
  | with_reducible refine x_starT ?_
  | with_reducible refine x_frzD ?_
  | with_reducible refine x_sw ?_
  | with_reducible refine x_cnt ?_
  | with_reducible refine x_waC ?_
  | with_reducible refine x_waN ?_
  | with_reducible refine x_lenDD ?_
  | with_reducible refine x_allX ?_
  | (with_reducible show wFz _ _ _ _); refine x_fz rfl ?_
  | (with_reducible show wFzS _ _ _ _); refine x_fzS rfl ?_
  | (with_reducible show wFzO _ _ _ _); refine x_fzO rfl ?_
  | (with_reducible show wiK _ _ _); refine x_iK rfl ?_
  | (with_reducible show wiIt _ _ _); refine x_iIt rfl ?_
  | with_reducible refine x_iE1 ?_
  | with_reducible refine x_forR ?_
  | (with_reducible show wDIxV _ _ _ _); refine x_dixV rfl (cd_dicO _) ?_
  | (with_reducible show wDPop _ _ _ _); refine x_dpop rfl ?_
  | with_reducible refine x_pickO ?_
  | (with_reducible show wExt _ _ _ _); refine x_extO rfl ?_
  | with_reducible refine x_sortedR ?_
  | with_reducible refine x_sortedL ?_
  | with_reducible refine x_ixSt ?_
  | (with_reducible show wiVal _ _ _); refine x_iVal rfl ?_
  | with_reducible refine x_dictP ?_
  | with_reducible refine x_dictZip ?_
  | with_reducible refine x_revS ?_
  | with_reducible refine x_par ?_
  | (with_reducible show wIsiV _ _ _ _ _); refine x_isiV rfl ?_
  | ((with_reducible show _ ∧ _); refine And.intro (Nat.le_of_ble_eq_true rfl) ?_))
local macro_rules | `(tactic| walk_at "x") => `(tactic| repeat (walk_at "x1"))

structure Txt (K : PySem.W.Frag) (mg : Str → Option Value) : Prop where
  z_all : mg "all" = none
  z_any : mg "any" = none
  z_bool : mg "bool" = none
  z_dict : mg "dict" = none
  z_int : mg "int" = none
  z_isinstance : mg "isinstance" = none
  z_len : mg "len" = none
  z_list : mg "list" = none
  z_max : mg "max" = none
  z_min : mg "min" = none
  z_range : mg "range" = none
  z_set : mg "set" = none
  z_sorted : mg "sorted" = none
  z_str : mg "str" = none
  z_tuple : mg "tuple" = none
  g_ALL_DEEDS : ∃ v u, mg "ALL_DEEDS" = some u ∧ RelV v u ∧ ∀ H, Fz K H v (.tup [.tup [.str "look"], .tup [.str "set"], .tup [.str "look", .str "set"]])
  g_DEEDS : ∃ v u, mg "DEEDS" = some u ∧ RelV v u ∧ ∀ H, Fz K H v (.int 2)
  g_GIVER : ∃ v u, mg "GIVER" = some u ∧ RelV v u ∧ ∀ H, Fz K H v (.int 3)
  g_HOLDER : ∃ v u, mg "HOLDER" = some u ∧ RelV v u ∧ ∀ H, Fz K H v (.int 4)
  g_LAST_MOMENT : ∃ v u, mg "LAST_MOMENT" = some u ∧ RelV v u ∧ ∀ H, Fz K H v (.int 1000000)
  g_LONGEST_NAME : ∃ v u, mg "LONGEST_NAME" = some u ∧ RelV v u ∧ ∀ H, Fz K H v (.int 8)
  g_MOST_PASSES : ∃ v u, mg "MOST_PASSES" = some u ∧ RelV v u ∧ ∀ H, Fz K H v (.int 6)
  g_OWNER : ∃ v u, mg "OWNER" = some u ∧ RelV v u ∧ ∀ H, Fz K H v (.int 0)
  g_PASSES : ∃ v u, mg "PASSES" = some u ∧ RelV v u ∧ ∀ H, Fz K H v (.int 7)
  g_ROOM : ∃ v u, mg "ROOM" = some u ∧ RelV v u ∧ ∀ H, Fz K H v (.int 1)
  g_ROOM_NAME : ∃ v u, mg "ROOM_NAME" = some u ∧ RelV v u ∧ ∀ H, Fz K H v (.str "room")
  g_SINCE : ∃ v u, mg "SINCE" = some u ∧ RelV v u ∧ ∀ H, Fz K H v (.int 5)
  g_TIES : ∃ v u, mg "TIES" = some u ∧ RelV v u ∧ ∀ H, Fz K H v (.int 1)
  g_UNTIL : ∃ v u, mg "UNTIL" = some u ∧ RelV v u ∧ ∀ H, Fz K H v (.int 6)
  g_WISHES : ∃ v u, mg "WISHES" = some u ∧ RelV v u ∧ ∀ H, Fz K H v (.int 2)
section
variable {P : Program} {w : World} {K : PySem.W.Frag} {mg : Str → Option Value} {base : Heap} {tabs : List Addr}
/-! ### what the words are asked -/
def wholeB : D → Bool
  | .int _ => true
  | _ => false
def betwB (d : D) (lo hi : Int) : Bool := match d with
  | .int i => decide (lo ≤ i) && decide (i ≤ hi)
  | _ => false
def wWhole : WFn := fun ds Q => ∃ d, ds = [d] ∧ NoTy d ∧ Q (.f (.bl (wholeB d)))
theorem mono_is_whole : MonoF wWhole := fun ds Q Q' i ⟨d, h, n, q⟩ => ⟨d, h, n, i _ q⟩
theorem ok_whole (T : Txt K mg) (A : At K mg "is_whole" s_is_whole ["thing"]) : Cal P w K mg base 1 "is_whole" (spW K tabs (liftF wWhole)) := by
  refine A.of fun f fd F => fx_fnF F sc_is_whole (fun ds Q ⟨d, h, _⟩ => by rw [h]; rfl) fun cdv A outer s H E TT P0 σ0 hcd hr => ⟨_, (gss_one (gs_ret (ge_and (ge_cbB cax_isi (by rfl) T.z_isinstance (by decide +kernel) (gd_cons (GE.of_pure (gp_var (pv 0))) (gd_cons (GE.of_pure (gp_ty (n := "int") (by rfl) T.z_int (by decide +kernel))) gd_nil))) (ge_one (ge_not (ge_cbB cax_isi (by rfl) T.z_isinstance (by decide +kernel) (gd_cons (GE.of_pure (gp_var (pv 0))) (gd_cons (GE.of_pure (gp_ty (n := "bool") (by rfl) T.z_bool (by decide +kernel))) gd_nil)))))))), fun ds Q ⟨d, h, nt, k⟩ => ?_⟩
  subst h
  refine x_start (e := [some (.f d)]) rfl ?_
  cases d <;> first | exact absurd rfl (nt _) | (walk_at "x"; exact k)
def wBetween : WFn := fun ds Q => ∃ d lo hi, ds = [d, .int lo, .int hi] ∧ NoTy d ∧ Q (.f (.bl (betwB d lo hi)))
theorem mono_is_between : MonoF wBetween := fun ds Q Q' i ⟨d, lo, hi, h, n, q⟩ => ⟨d, lo, hi, h, n, i _ q⟩
theorem ok_between (T : Txt K mg) (c_is_whole : Cal P w K mg base 1 "is_whole" (spW K tabs (liftF wWhole))) (A : At K mg "is_between" s_is_between ["thing", "least", "most"]) : Cal P w K mg base 2 "is_between" (spW K tabs (liftF wBetween)) := by
  refine A.of fun f fd F => fx_fnF F sc_is_between (fun ds Q ⟨d, lo, hi, h, _⟩ => by rw [h]; rfl) fun cdv A outer s H E TT P0 σ0 hcd hr => ⟨_, (gss_one (gs_ret (ge_and (ge_callF c_is_whole hr (by decide) rfl rfl rfl mono_is_whole (gd_cons (GE.of_pure (gp_var (pv 0))) gd_nil)) (ge_one (ge_chain opx_le opx_le (GE.of_pure (gp_var (pv 1))) (GE.of_pure (gp_var (pv 0))) (GE.of_pure (gp_var (pv 2)))))))), fun ds Q ⟨d, lo, hi, h, nt, k⟩ => ?_⟩
  subst h
  refine x_start (e := [some (.f d), some (.f (.int lo)), some (.f (.int hi))]) rfl ?_
  walk_at "x"
  refine ⟨d, rfl, nt, ?_⟩
  cases d with
  | ty m => exact absurd rfl (nt m)
  | int i =>
    walk_at "x"
    refine x_ite (fun h => ?_) (fun h => ?_)
    · walk_at "x"
      have e : betwB (.int i) lo hi = decide (i ≤ hi) := by simp only [betwB, h, Bool.true_and]
      rw [e] at k
      exact k
    · walk_at "x"
      have e : betwB (.int i) lo hi = false := by simp only [betwB, h, Bool.false_and]
      rw [e] at k
      exact k
  | _ => walk_at "x"; exact k
def wMoment : WFn := fun ds Q => ∃ d, ds = [d] ∧ NoTy d ∧ Q (.f (.bl (betwB d 0 1000000)))
theorem mono_is_moment : MonoF wMoment := fun ds Q Q' i ⟨d, h, n, q⟩ => ⟨d, h, n, i _ q⟩
theorem ok_moment (T : Txt K mg) (c_is_between : Cal P w K mg base 2 "is_between" (spW K tabs (liftF wBetween))) (A : At K mg "is_moment" s_is_moment ["thing"]) : Cal P w K mg base 3 "is_moment" (spW K tabs (liftF wMoment)) := by
  refine A.of fun f fd F => fx_fnF F sc_is_moment (fun ds Q ⟨d, h, _⟩ => by rw [h]; rfl) fun cdv A outer s H E TT P0 σ0 hcd hr => ⟨_, (gss_one (gs_ret (ge_callF c_is_between hr (by decide) rfl rfl rfl mono_is_between (gd_cons (GE.of_pure (gp_var (pv 0))) (gd_cons (GE.of_pure gp_int) (gd_cons (GE.of_pure (gp_k T.g_LAST_MOMENT rfl)) gd_nil)))))), fun ds Q ⟨d, h, nt, k⟩ => ?_⟩
  subst h
  refine x_start (e := [some (.f d)]) rfl ?_
  walk_at "x"
  refine ⟨d, _, _, rfl, nt, ?_⟩
  walk_at "x"
  exact k
def ltB (a b : D) : Bool := match a, b with
  | .int i, .int j => decide (i < j)
  | _, _ => false
def spanB (a b : D) : Bool := betwB a 0 1000000 && (betwB b 0 1000000 && ltB a b)
theorem betw_int {d : D} {lo hi : Int} (h : betwB d lo hi = true) : ∃ i, d = .int i ∧ lo ≤ i ∧ i ≤ hi := by
  cases d with
  | int i =>
    have h : (decide (lo ≤ i) && decide (i ≤ hi)) = true := h
    rw [Bool.and_eq_true, decide_eq_true_iff, decide_eq_true_iff] at h
    exact ⟨i, rfl, h.1, h.2⟩
  | _ => cases h
def wSpan : WFn := fun ds Q => ∃ a b, ds = [a, b] ∧ NoTy a ∧ NoTy b ∧ Q (.f (.bl (spanB a b)))
theorem mono_is_span : MonoF wSpan := fun ds Q Q' i ⟨a, b, h, n, m, q⟩ => ⟨a, b, h, n, m, i _ q⟩
theorem ok_span (T : Txt K mg) (c_is_moment : Cal P w K mg base 3 "is_moment" (spW K tabs (liftF wMoment))) (A : At K mg "is_span" s_is_span ["since", "until"]) : Cal P w K mg base 4 "is_span" (spW K tabs (liftF wSpan)) := by
  refine A.of fun f fd F => fx_fnF F sc_is_span (fun ds Q ⟨a, b, h, _⟩ => by rw [h]; rfl) fun cdv A outer s H E TT P0 σ0 hcd hr => ⟨_, (gss_one (gs_ret (ge_and (ge_callF c_is_moment hr (by decide) rfl rfl rfl mono_is_moment (gd_cons (GE.of_pure (gp_var (pv 0))) gd_nil)) (ge_and (ge_callF c_is_moment hr (by decide) rfl rfl rfl mono_is_moment (gd_cons (GE.of_pure (gp_var (pv 1))) gd_nil)) (ge_one (GE.of_pure (gp_cmp opx_lt (gp_var (pv 0)) (gp_var (pv 1)) (nomark _)))))))), fun ds Q ⟨a, b, h, na, nb, k⟩ => ?_⟩
  subst h
  refine x_start (e := [some (.f a), some (.f b)]) rfl ?_
  walk_at "x"
  refine ⟨a, rfl, na, ?_⟩
  walk_at "x"
  refine x_ite (fun h1 => ?_) (fun h1 => ?_)
  · walk_at "x"
    refine ⟨b, rfl, nb, ?_⟩
    walk_at "x"
    refine x_ite (fun h2 => ?_) (fun h2 => ?_)
    · obtain ⟨i, rfl, _⟩ := betw_int h1
      obtain ⟨j, rfl, _⟩ := betw_int h2
      walk_at "x"
      have e : spanB (.int i) (.int j) = decide (i < j) := by unfold spanB; rw [h1, h2]; rfl
      rw [e] at k
      exact k
    · walk_at "x"
      have e : spanB a b = false := by unfold spanB; rw [h1, h2]; rfl
      rw [e] at k
      exact k
  · walk_at "x"
    have e : spanB a b = false := by unfold spanB; rw [h1]; rfl
    rw [e] at k
    exact k
/-! names -/
def nameB : D → Bool
  | .str a => decide ((1 : Int) ≤ (a.length : Int)) && (decide ((a.length : Int) ≤ 8) && Fx.nmB "a" "z" a)
  | _ => false
abbrev StrOk (d : D) : Prop := ∀ a, d = .str a → a.length ≤ sizeLine
def wName : WFn := fun ds Q => ∃ d, ds = [d] ∧ NoTy d ∧ StrOk d ∧ Q (.f (.bl (nameB d)))
theorem mono_is_name : MonoF wName := fun ds Q Q' i ⟨d, h, n, z, q⟩ => ⟨d, h, n, z, i _ q⟩
theorem ok_isname {c Pn : Addr} (in_is_name : Pn ∈ tabs) (T : Txt K mg) (tb_is_name : GxR.TabB base mg c Pn) (A : AtC K mg "is_name" s_is_name ["thing"] c) : Cal P w K mg base 1 "is_name" (spW K tabs (liftF wName)) := by
  refine A.of fun f fd F hc => fx_fnF F sc_is_name (fun ds Q ⟨d, h, _⟩ => by rw [h]; rfl) fun cdv A outer s H E TT P0 σ0 hcd hr => ?_
  obtain rfl : cdv = .ref c := hcd.symm.trans hc
  refine ⟨_, (gss_cons (gs_if (GW.gt (gw_or (gt_not (gt_tru (ge_cbB cax_isi (by rfl) T.z_isinstance (by decide +kernel) (gd_cons (GE.of_pure (gp_var (pv 0))) (gd_cons (GE.of_pure (gp_ty (n := "str") (by rfl) T.z_str (by decide +kernel))) gd_nil))))) (gw_or1 (gt_not (gt_chain opx_le opx_le (GE.of_pure gp_int) (ge_cbB1 cax_len (by rfl) T.z_len (by decide +kernel) (pv 0)) (GE.of_pure (gp_k T.g_LONGEST_NAME rfl)))))))
      (gss_one (gs_ret (GE.of_pure gp_bl)))
      gss_nil)
      (gss_one (gs_ret (ge_allSgR tb_is_name hr rfl T.z_all rfl (genS0 (by decide +kernel)) (GE.of_pure (gp_var (pv 0))) (fun _ => rfl) in_is_name rfl rfl)))), fun ds Q ⟨d, h, nt, hz, k⟩ => ?_⟩
  subst h
  refine x_start (e := [some (.f d)]) rfl ?_
  cases d with
  | ty m => exact absurd rfl (nt m)
  | str a =>
    have z := hz a rfl
    walk_at "x"
    refine x_ite (fun h1 => ?_) (fun h1 => ?_)
    · walk_at "x"
      refine x_ite (fun h2 => ?_) (fun h2 => ?_)
      · walk_at "x"
        have e : nameB (.str a) = Fx.nmB "a" "z" a := by simp only [nameB, h1, h2, Bool.true_and]
        rw [e] at k
        exact k
      · walk_at "x"
        have e : nameB (.str a) = false := by simp only [nameB, h2, Bool.false_and, Bool.and_false]
        rw [e] at k
        exact k
    · walk_at "x"
      have e : nameB (.str a) = false := by simp only [nameB, h1, Bool.false_and]
      rw [e] at k
      exact k
  | _ => walk_at "x"; exact k
theorem name_str {d : D} (h : nameB d = true) : ∃ a, d = .str a ∧ a.length ≤ 8 := by
  cases d with
  | str a =>
    refine ⟨a, rfl, ?_⟩
    simp only [nameB, Bool.and_eq_true, decide_eq_true_iff] at h
    omega
  | _ => cases h
/-! deeds -/
def allDeeds : List D := [.tup [.str "look"], .tup [.str "set"], .tup [.str "look", .str "set"]]
def deedsB : D → Bool
  | .tup ds => ds.all Fx.isStr && memB allDeeds (.tup ds)
  | _ => false
abbrev TupOk (d : D) : Prop := ∀ ds, d = .tup ds → (∀ x ∈ ds, NoTy x) ∧ (ds.all Fx.isStr = true → okPy (.tup ds) = true)
def wDeeds : WFn := fun ds Q => ∃ d, ds = [d] ∧ NoTy d ∧ TupOk d ∧ Q (.f (.bl (deedsB d)))
theorem mono_is_deeds : MonoF wDeeds := fun ds Q Q' i ⟨d, h, n, z, q⟩ => ⟨d, h, n, z, i _ q⟩
theorem ok_deeds {c Pd : Addr} (in_is_deeds : Pd ∈ tabs) (T : Txt K mg) (tb_is_deeds : GxR.TabB base mg c Pd) (A : AtC K mg "is_deeds" s_is_deeds ["thing"] c) : Cal P w K mg base 1 "is_deeds" (spW K tabs (liftF wDeeds)) := by
  refine A.of fun f fd F hc => fx_fnF F sc_is_deeds (fun ds Q ⟨d, h, _⟩ => by rw [h]; rfl) fun cdv A outer s H E TT P0 σ0 hcd hr => ?_
  obtain rfl : cdv = .ref c := hcd.symm.trans hc
  refine ⟨_, (gss_cons (gs_if (GW.gt (gw_or (gt_not (gt_tru (ge_cbB cax_isi (by rfl) T.z_isinstance (by decide +kernel) (gd_cons (GE.of_pure (gp_var (pv 0))) (gd_cons (GE.of_pure (gp_ty (n := "tuple") (by rfl) T.z_tuple (by decide +kernel))) gd_nil))))) (gw_or1 (gt_not (gt_tru (ge_allStrR tb_is_deeds hr rfl T.z_all rfl (genS0 (by decide +kernel)) (GE.of_pure (gp_var (pv 0))) (fun _ => rfl) in_is_deeds rfl rfl rfl T.z_isinstance rfl T.z_str))))))
      (gss_one (gs_ret (GE.of_pure gp_bl)))
      gss_nil)
      (gss_one (gs_ret (GE.of_pure (gp_cmp (opx_in hr.u65) (gp_var (pv 0)) (gp_k T.g_ALL_DEEDS rfl) (by rfl)))))), fun ds Q ⟨d, h, nt, hz, k⟩ => ?_⟩
  subst h
  refine x_start (e := [some (.f d)]) rfl ?_
  cases d with
  | ty m => exact absurd rfl (nt m)
  | tup ds =>
    obtain ⟨z1, z2⟩ := hz ds rfl
    walk_at "x"
    refine x_allStr ?_
    walk_at "x"
    refine ⟨z1, ?_⟩
    walk_at "x"
    refine x_ite (fun h1 => ?_) (fun h1 => ?_)
    · walk_at "x"
      refine x_inT (z2 h1) (by decide +kernel) ?_
      walk_at "x"
      have e : deedsB (.tup ds) = memB allDeeds (.tup ds) := by simp only [deedsB, h1, Bool.true_and]
      rw [e] at k
      exact k
    · walk_at "x"
      have e : deedsB (.tup ds) = false := by simp only [deedsB, h1, Bool.false_and]
      rw [e] at k
      exact k
  | _ => walk_at "x"; exact k
/-! leaves -/
def szB : D → Bool
  | .str a => decide (a.length ≤ sizeLine)
  | _ => true
def part (d : D) : Bool := (okPy d && szB d) || Fx.isDic d
def Good (d : D) : Prop := NoTy d ∧ ∀ ds, d = .tup ds → ∀ x ∈ ds, part x = true
theorem okPy_ty {d : D} (h : d.py.canLay0 = true) : NoTy d := fun m e => by
  subst e
  have h : false = true := h
  cases h
theorem okPy_tup {ds : List D} (h : PyData.canLayAll0 (D.pyL ds) = true) : ∀ x ∈ ds, NoTy x := by
  induction ds with
  | nil => intro x hx; cases hx
  | cons d ds ih =>
    have h : (d.py.canLay0 && PyData.canLayAll0 (D.pyL ds)) = true := h
    rw [Bool.and_eq_true] at h
    intro x hx
    rcases List.mem_cons.mp hx with rfl | hx
    · exact okPy_ty h.1
    · exact ih h.2 x hx
theorem part_ty {d : D} (h : part d = true) : NoTy d := by
  unfold part at h
  rw [Bool.or_eq_true, Bool.and_eq_true] at h
  rcases h with h | h
  · exact okPy_ty (SeqAt.canLay_of_shaped h.1)
  · intro m e
    subst e
    have h : false = true := h
    cases h
theorem part_tok {d : D} (h : part d = true) : TupOk d := fun ds e => by
  subst e
  unfold part at h
  rw [Bool.or_eq_true, Bool.and_eq_true] at h
  rcases h with h | h
  · exact ⟨okPy_tup (SeqAt.canLay_of_shaped h.1), fun _ => h.1⟩
  · have h : false = true := h
    cases h
theorem part_sok {d : D} (h : part d = true) : StrOk d := fun a e => by
  subst e
  unfold part at h
  rw [Bool.or_eq_true, Bool.and_eq_true] at h
  rcases h with h | h
  · exact of_decide_eq_true h.2
  · have h : false = true := h
    cases h
theorem part_name {d : D} (h : part d = true) (n : nameB d = true) : okPy d = true := by
  obtain ⟨a, rfl, _⟩ := name_str n
  unfold part at h
  rw [Bool.or_eq_true, Bool.and_eq_true] at h
  rcases h with h | h
  · exact h.1
  · have h : false = true := h
    cases h
def underB (v n : D) : Bool := Fx.isNon v || (match n with | .int i => betwB v 0 (i - 1) | _ => false)
def gezB : D → Bool
  | .int i => decide (0 ≤ i)
  | _ => false
def leaveB : D → Bool
  | .tup [n, room, deeds, g, h, s, u, p, v] => gezB n && (nameB room && (deedsB deeds && (nameB g && (nameB h && (!eqB g h && (spanB s u && (betwB p 0 6 && underB v n)))))))
  | _ => false
def wLeave : WFn := fun ds Q => ∃ d, ds = [d] ∧ Good d ∧ Q (.f (.bl (leaveB d)))
theorem mono_is_leave : MonoF wLeave := fun ds Q Q' i ⟨d, h, n, q⟩ => ⟨d, h, n, i _ q⟩
theorem len_is_leave : ∀ ds Q, wLeave ds Q → ds.length = (["thing"] : List Str).length := fun ds Q ⟨d, h, _⟩ => by rw [h]; rfl
theorem leave_fn {c_1 : Nat} (T : Txt K mg) (c_is_whole : Cal P w K mg base 1 "is_whole" (spW K tabs (liftF wWhole))) (c_is_between : Cal P w K mg base 2 "is_between" (spW K tabs (liftF wBetween))) (c_is_span : Cal P w K mg base 4 "is_span" (spW K tabs (liftF wSpan)))
    (c_is_name : Cal P w K mg base 1 "is_name" (spW K tabs (liftF wName))) (c_is_deeds : Cal P w K mg base 1 "is_deeds" (spW K tabs (liftF wDeeds))) {f : Addr} {fd : FuncData} (F : Fun K "is_leave" "is_leave" s_is_leave f fd) : FnOk P w K mg base CX0 5 f fd ["thing"] (spW K tabs (liftF wLeave)) := by
  refine fx_fnF F sc_is_leave len_is_leave fun cdv A outer s H E TT P0 σ0 hcd hr => ⟨_, (gss_cons (gs_if (GW.gt (gw_or (gt_not (gt_tru (ge_cbB cax_isi (by rfl) T.z_isinstance (by decide +kernel) (gd_cons (GE.of_pure (gp_var (pv 0))) (gd_cons (GE.of_pure (gp_ty (n := "tuple") (by rfl) T.z_tuple (by decide +kernel))) gd_nil))))) (gw_or1 (gt_cmp (opx_ne hr.units) (ge_cbB1 cax_len (by rfl) T.z_len (by decide +kernel) (pv 0)) (GE.of_pure gp_int) (nomark _)))))
      (gss_one (gs_ret (GE.of_pure gp_bl)))
      gss_nil)
      (gss_cons (gs_asg (GE.of_pure (gp_var (pv 0))) (gg_tup (n := 9) rfl (ggs_cons (pg_name (i := 1) sc_is_leave.nd rfl (Or.inl rfl)) rfl (ggs_cons (pg_name (i := 2) sc_is_leave.nd rfl (Or.inl rfl)) rfl (ggs_cons (pg_name (i := 3) sc_is_leave.nd rfl (Or.inl rfl)) rfl (ggs_cons (pg_name (i := 4) sc_is_leave.nd rfl (Or.inl rfl)) rfl (ggs_cons (pg_name (i := 5) sc_is_leave.nd rfl (Or.inl rfl)) rfl (ggs_cons (pg_name (i := 6) sc_is_leave.nd rfl (Or.inl rfl)) rfl (ggs_cons (pg_name (i := 7) sc_is_leave.nd rfl (Or.inl rfl)) rfl (ggs_cons (pg_name (i := 8) sc_is_leave.nd rfl (Or.inl rfl)) rfl (ggs_cons (pg_name (i := 9) sc_is_leave.nd rfl (Or.inl rfl)) rfl ggs_nil)))))))))))
      (gss_cons (gs_if (GW.gt (gw_or (gt_not (gt_tru (ge_callF c_is_whole hr (by decide) rfl rfl rfl mono_is_whole (gd_cons (GE.of_pure (gp_var (pv 1))) gd_nil)))) (gw_or1 (gt_cmpP opx_lt (gp_var (pv 1)) gp_int (nomark _)))))
      (gss_one (gs_ret (GE.of_pure gp_bl)))
      gss_nil)
      (gss_cons (gs_if (GW.gt (gw_or (gt_not (gt_tru (ge_callF c_is_name hr (by decide) rfl rfl rfl mono_is_name (gd_cons (GE.of_pure (gp_var (pv 2))) gd_nil)))) (gw_or1 (gt_not (gt_tru (ge_callF c_is_deeds hr (by decide) rfl rfl rfl mono_is_deeds (gd_cons (GE.of_pure (gp_var (pv 3))) gd_nil)))))))
      (gss_one (gs_ret (GE.of_pure gp_bl)))
      gss_nil)
      (gss_cons (gs_if (GW.gt (gw_or (gt_not (gt_tru (ge_callF c_is_name hr (by decide) rfl rfl rfl mono_is_name (gd_cons (GE.of_pure (gp_var (pv 4))) gd_nil)))) (gw_or (gt_not (gt_tru (ge_callF c_is_name hr (by decide) rfl rfl rfl mono_is_name (gd_cons (GE.of_pure (gp_var (pv 5))) gd_nil)))) (gw_or1 (gt_cmpP (opx_eq hr.units) (gp_var (pv 4)) (gp_var (pv 5)) (nomark _))))))
      (gss_one (gs_ret (GE.of_pure gp_bl)))
      gss_nil)
      (gss_cons (gs_if (GW.gt (gw_or (gt_not (gt_tru (ge_callF c_is_span hr (by decide) rfl rfl rfl mono_is_span (gd_cons (GE.of_pure (gp_var (pv 6))) (gd_cons (GE.of_pure (gp_var (pv 7))) gd_nil))))) (gw_or1 (gt_not (gt_tru (ge_callF c_is_between hr (by decide) rfl rfl rfl mono_is_between (gd_cons (GE.of_pure (gp_var (pv 8))) (gd_cons (GE.of_pure gp_int) (gd_cons (GE.of_pure (gp_k T.g_MOST_PASSES rfl)) gd_nil)))))))))
      (gss_one (gs_ret (GE.of_pure gp_bl)))
      gss_nil)
      (gss_one (gs_ret (ge_or (GE.of_pure (gp_cmp opx_isN (gp_var (pv 9)) gp_non (nomark _))) (ge_one (ge_callF c_is_between hr (by decide) rfl rfl rfl mono_is_between (gd_cons (GE.of_pure (gp_var (pv 9))) (gd_cons (GE.of_pure gp_int) (gd_cons (GE.of_pure (gp_op opx_sub (gp_var (pv 1)) gp_int)) gd_nil)))))))))))))), fun ds Q ⟨d, h, ⟨nt, hg⟩, k⟩ => ?_⟩
  subst h
  refine x_start (e := [some (.f d), none, none, none, none, none, none, none, none, none]) rfl ?_
  cases d with
  | ty m => exact absurd rfl (nt m)
  | tup ds =>
    have hg := hg ds rfl
    walk_at "x"
    by_cases hl : ds.length = 9
    · obtain ⟨n, room, deeds, g, h, s, u, p, v, rfl⟩ := nine hl
      have gn := hg n (by simp)
      have groom := hg room (by simp)
      have gdeeds := hg deeds (by simp)
      have gg := hg g (by simp)
      have gh := hg h (by simp)
      have gs := hg s (by simp)
      have gu := hg u (by simp)
      have gp := hg p (by simp)
      have gv := hg v (by simp)
      walk_at "x"
      refine ⟨n, rfl, part_ty gn, ?_⟩
      walk_at "x"
      have kf : leaveB (.tup [n, room, deeds, g, h, s, u, p, v]) = false → Q (.f (.bl false)) := fun e => by rw [e] at k; exact k
      refine x_ite (fun h1 => ?_) (fun h1 => ?_)
      · obtain ⟨i, rfl⟩ : ∃ i, n = .int i := by cases n <;> first | exact ⟨_, rfl⟩ | cases h1
        walk_at "x"
        refine x_iteD (fun h2 => ?_) (fun h2 => ?_)
        · walk_at "x"
          exact kf (by simp only [leaveB, gezB, show decide (0 ≤ i) = false from decide_eq_false (by omega), Bool.false_and])
        · have h2' : gezB (.int i) = true := decide_eq_true (show 0 ≤ i by omega)
          walk_at "x"
          refine ⟨room, rfl, part_ty groom, part_sok groom, ?_⟩
          walk_at "x"
          refine x_ite (fun h3 => ?_) (fun h3 => ?_)
          · walk_at "x"
            refine ⟨deeds, rfl, part_ty gdeeds, part_tok gdeeds, ?_⟩
            walk_at "x"
            refine x_ite (fun h4 => ?_) (fun h4 => ?_)
            · walk_at "x"
              refine ⟨g, rfl, part_ty gg, part_sok gg, ?_⟩
              walk_at "x"
              refine x_ite (fun h5 => ?_) (fun h5 => ?_)
              · walk_at "x"
                refine ⟨h, rfl, part_ty gh, part_sok gh, ?_⟩
                walk_at "x"
                refine x_ite (fun h6 => ?_) (fun h6 => ?_)
                · walk_at "x"
                  refine x_eqD (part_name gg h5) (part_name gh h6) ?_
                  walk_at "x"
                  refine x_ite (fun h7 => ?_) (fun h7 => ?_)
                  · walk_at "x"
                    exact kf (by simp only [leaveB, h7, Bool.not_true, Bool.false_and, Bool.and_false])
                  · walk_at "x"
                    refine ⟨s, u, rfl, part_ty gs, part_ty gu, ?_⟩
                    walk_at "x"
                    refine x_ite (fun h8 => ?_) (fun h8 => ?_)
                    · walk_at "x"
                      refine ⟨p, _, _, rfl, part_ty gp, ?_⟩
                      walk_at "x"
                      refine x_ite (fun h9 => ?_) (fun h9 => ?_)
                      · walk_at "x"
                        refine x_isN ?_
                        walk_at "x"
                        have e : leaveB (.tup [.int i, room, deeds, g, h, s, u, p, v]) = underB v (.int i) := by simp only [leaveB, h2', h3, h4, h5, h6, h7, h8, h9, Bool.true_and, Bool.not_false]
                        rw [e] at k
                        refine x_ite (fun h0 => ?_) (fun h0 => ?_)
                        · walk_at "x"
                          have h0' : Fx.isNon v = true := by cases hv : Fx.isNon v <;> rw [hv] at h0 <;> first | rfl | cases h0
                          have e2 : underB v (.int i) = true := by simp only [underB, h0', Bool.true_or]
                          rw [e2] at k
                          exact k
                        · walk_at "x"
                          have h0' : Fx.isNon v = false := by cases hv : Fx.isNon v <;> rw [hv] at h0 <;> first | rfl | cases h0
                          refine ⟨v, _, _, rfl, part_ty gv, ?_⟩
                          walk_at "x"
                          have e2 : underB v (.int i) = betwB v 0 (i - 1) := by simp only [underB, h0', Bool.false_or]
                          rw [e2] at k
                          exact k
                      · walk_at "x"
                        exact kf (by simp only [leaveB, h9, Bool.false_and, Bool.and_false])
                    · walk_at "x"
                      exact kf (by simp only [leaveB, h8, Bool.false_and, Bool.and_false])
                · walk_at "x"
                  exact kf (by simp only [leaveB, h6, Bool.false_and, Bool.and_false])
              · walk_at "x"
                exact kf (by simp only [leaveB, h5, Bool.false_and, Bool.and_false])
            · walk_at "x"
              exact kf (by simp only [leaveB, h4, Bool.false_and, Bool.and_false])
          · walk_at "x"
            exact kf (by simp only [leaveB, h3, Bool.false_and, Bool.and_false])
      · walk_at "x"
        have e : gezB n = false := by cases n <;> first | rfl | cases h1
        exact kf (by simp only [leaveB, e, Bool.false_and])
    · have e : leaveB (.tup ds) = false := by
        unfold leaveB
        split
        · rename_i h; cases h; exact absurd rfl hl
        · rfl
      rw [e] at k
      refine x_iteD (fun h => absurd (by exact_mod_cast h) hl) (fun _ => ?_)
      walk_at "x"
      exact k
  | _ => walk_at "x"; exact k

/-! ### ties and wishes -/
/-! ### trusts -/
def nm0 : D → Str
  | .tup (.str a :: _) => a
  | _ => Str.empty
theorem rng_all (p : Nat → Bool) : ∀ l : List Nat, (List.range l.length).all (GxR.trF p l) = l.all p
  | [] => rfl
  | c :: l => by
    rw [List.length_cons, List.range_succ_eq_map, List.all_cons, List.all_map, List.all_cons, ← rng_all p l]
    rfl
theorem okPy_strs {xs : List Str} (h : ∀ x ∈ xs, PyData.strOk x = true) : okPy (.lst (xs.map D.str)) = true := by
  have key : PyData.canLayAll0 (D.pyL (xs.map D.str)) = true ∧ PyData.depthAll (D.pyL (xs.map D.str)) = 0 := by
    induction xs with
    | nil => exact ⟨by show PyData.canLayAll0 [] = true; unfold PyData.canLayAll0; rfl, by show PyData.depthAll [] = 0; unfold PyData.depthAll; rfl⟩
    | cons c l ih =>
      obtain ⟨i1, i2⟩ := ih fun c hc => h c (List.mem_cons_of_mem _ hc)
      have hc := h c (List.mem_cons_self ..)
      refine ⟨?_, ?_⟩
      · show PyData.canLayAll0 (.str c :: D.pyL (l.map D.str)) = true
        unfold PyData.canLayAll0
        rw [i1, Bool.and_true]
        unfold PyData.canLay0
        exact hc
      · show PyData.depthAll (.str c :: D.pyL (l.map D.str)) = 0
        unfold PyData.depthAll
        rw [i2]
        unfold PyData.depth
        rfl
  unfold okPy SeqAt.shaped
  rw [Bool.and_eq_true]
  refine ⟨?_, ?_⟩
  · show PyData.canLay0 (.list (D.pyL (xs.map D.str))) = true
    unfold PyData.canLay0
    exact key.1
  · show decide (PyData.depth (.list (D.pyL (xs.map D.str))) ≤ 64) = true
    unfold PyData.depth
    rw [key.2]
    rfl
theorem name_cp {a : Str} (h : nameB (.str a) = true) : PyData.strOk a = true := by
  have h : (decide ((1 : Int) ≤ (a.length : Int)) && (decide ((a.length : Int) ≤ 8) && Fx.nmB "a" "z" a)) = true := h
  rw [Bool.and_eq_true, Bool.and_eq_true] at h
  have h := h.2.2
  unfold Fx.nmB at h
  rw [show a.cps.size = a.cps.toList.length by simp, rng_all, List.all_eq_true] at h
  refine strOk_list fun c hc => ?_
  have b := h c hc
  unfold btw at b
  rw [Bool.and_eq_true, show (Str.ofString "z").cps.toList = [122] by decide +kernel] at b
  have b := b.2
  by_cases hz : 122 < c
  · have l : [122] < [c] := List.Lex.rel hz
    rw [decide_eq_true l] at b
    cases b
  · omega
theorem mem_strs {x : Str} : ∀ {xs : List Str}, memB (xs.map D.str) (.str x) = xs.contains x
  | [] => rfl
  | y :: ys => by
    show (PyData.eqv (.str y) (.str x) || memB (ys.map D.str) (.str x)) = _
    rw [mem_strs (xs := ys), List.contains_cons]
    congr 1
    show PyData.eqv (.str y) (.str x) = _
    unfold PyData.eqv
    first | exact BEq.comm | (by_cases h : y = x <;> simp [h, eq_comm])
theorem eq_strs {x y : Str} : eqB (.str x) (.str y) = (x == y) := by
  show PyData.eqv (.str x) (.str y) = _
  unfold PyData.eqv
  first | rfl | (by_cases h : x = y <;> simp [h])
end
end K75

namespace K75
open PySem PySem.Spec PyProof.Rows L2 Lk Evl Fx



local macro_rules | `(tactic| walk_at "sz") => `(tactic| first
  | exact Nat.le_of_ble_eq_true rfl
  | assumption
  | exact small_sz (Nat.le_of_ble_eq_true rfl)
  | (simp only [List.length_cons, List.length_nil, List.length_map, List.length_append]; first | omega | exact small_sz (by omega)))
local macro_rules | `(tactic| walk_at "x1") => `(tactic| first
  | with_reducible refine x_seq ?_
  | (with_reducible show wVar _ _ _); first | refine x_varF rfl ?_ | refine x_varO rfl ?_ | refine x_varV rfl ?_
  | with_reducible refine x_c ?_
  | with_reducible refine x_exf ?_
  | with_reducible refine x_excd ?_
  | (with_reducible show ∃ d1, Sl.cd (Sl.vw _) = some d1 ∧ _); refine x_excV rfl ?_
  | (with_reducible show ∃ d1, Sl.cd (Sl.own _) = some d1 ∧ _); refine x_excO rfl ?_
  | with_reducible refine x_binP ?_
  | with_reducible refine x_bin ?_
  | with_reducible refine x_adC ?_
  | with_reducible refine x_adN ?_
  | with_reducible refine x_lst ?_
  | with_reducible refine x_tup ?_
  | with_reducible refine x_lstO ?_
  | (with_reducible refine x_and (p := _ ≤ sizeLine) ?h ?_); (case h => walk_at "sz")
  | with_reducible refine x_callF ?_
  | with_reducible refine x_callL ?_
  | with_reducible refine x_listO ?_
  | (with_reducible show wCallU _ _ _ _ _); refine x_callU rfl ?_
  | with_reducible refine x_callV ?_
  | with_reducible refine x_join ?_
  | with_reducible refine x_waD ?_
  | with_reducible refine x_lc ?_
  | with_reducible refine x_lc2 ?_
  | with_reducible refine x_lenSets ?_
  | (with_reducible show wApp _ _ _ _); refine x_app rfl ?_
  | (with_reducible show wBinV _ _ _ _ _); refine x_binV rfl ?_
  | (with_reducible show wPopD _ _ _ _); refine x_popD rfl ?_
  | (with_reducible show wCatV _ _ _ _); refine x_catV rfl ?_
  | with_reducible refine x_slN2 ?_
  | with_reducible refine x_sortedSets ?_
  | with_reducible refine x_tplL ?_
  | with_reducible refine x_tplT ?_
  | with_reducible refine x_isB ?_
  | with_reducible refine x_r1 ?_
  | with_reducible refine x_r2 ?_
  | (with_reducible refine x_r1e ?h0 ?h1 ?_); (case h0 => omega); (case h1 => omega)
  | with_reducible refine x_iL ?_
  | with_reducible refine x_iT ?_
  | with_reducible refine x_iS ?_
  | with_reducible refine x_iE ?_
  | with_reducible refine x_iEe ?_
  | with_reducible refine x_yes ?_
  | with_reducible refine x_for ?_
  | (with_reducible show wLot _ [D.int _] _); (refine' x_lot (by assumption) ?h1 ?h2 ?h3 ?_); (case h1 => omega); (case h2 => first | decide | omega); (case h3 => first | decide | omega)
  | (with_reducible show ∃ o, _ = some (some (Sl.own o)) ∧ _); refine x_exO rfl ?_
  | with_reducible refine x_exo ?_
  | with_reducible refine x_ret ?_
  | with_reducible refine x_set ?_
  | with_reducible refine x_fin ?_
  | with_reducible refine x_fino ?_
  | (with_reducible refine x_and (p := _ < List.length _) ?h ?_); (case h => exact Nat.le_of_ble_eq_true rfl); (try dsimp only [List.set_cons_succ, List.set_cons_zero])
  | with_reducible refine x_next ?_
  | with_reducible refine x_retN ?_
  | with_reducible refine x_drop ?_
  | with_reducible refine x_asg ?_
  | (with_reducible refine x_gtp ?h ?_); (case h => rfl)
  | with_reducible refine x_gcons ?_
  | with_reducible refine x_gnil ?_
  | (with_reducible refine x_gn ?h ?_); (case h => exact Nat.le_of_ble_eq_true rfl); (try dsimp only [List.set_cons_succ, List.set_cons_zero])
  | with_reducible refine x_ifS ?_
  | with_reducible refine x_if ?_
  | with_reducible refine x_itT ?_
  | with_reducible refine x_itF ?_
  | with_reducible refine x_iteN ?_
  | with_reducible refine x_tru ?_
  | with_reducible refine x_tB ?_
  | with_reducible refine x_dtB ?_
  | with_reducible refine x_dtN ?_
  | with_reducible refine x_exb ?_
  | with_reducible refine x_exdb ?_
  | with_reducible refine x_tand ?_
  | with_reducible refine x_tor ?_
  | with_reducible refine x_tnot ?_
  | with_reducible refine x_and2 ?_
  | with_reducible refine x_or2 ?_
  | with_reducible refine x_not2 ?_
  | with_reducible refine x_chain ?_
  | with_reducible refine x_sub ?_
  | with_reducible refine x_addI ?_
  | (with_reducible refine x_addS ?h ?_); (case h => walk_at "sz")
  | (with_reducible refine x_addL ?h ?_); (case h => walk_at "sz")
  | (with_reducible refine x_addT ?h ?_); (case h => walk_at "sz")
  | with_reducible refine x_lt ?_
  | with_reducible refine x_le ?_
  | with_reducible refine x_gt ?_
  | with_reducible refine x_ge ?_
  | with_reducible refine x_ltS ?_
  | with_reducible refine x_eqI ?_
  | with_reducible refine x_neI ?_
  | with_reducible refine x_allSg ?_
  | with_reducible refine x_m0 ?_
  | with_reducible refine x_lstT ?_
  | with_reducible refine x_lstL ?_
  | with_reducible refine x_strB ?_
  | with_reducible refine x_strN ?_
  | with_reducible refine x_strS ?_
  | with_reducible refine x_isT ?_
  | with_reducible refine x_isI ?_
  | with_reducible refine x_neg ?_
  | with_reducible refine x_un ?_
  | (with_reducible refine x_pow ?h ?_); (case h => exact ⟨by decide, by decide +kernel⟩)
  | (with_reducible refine x_mod ?h ?_); (case h => first | decide | omega)
  | (with_reducible refine x_mul ?h ?_); (case h => exact mul_ok (by first | decide | omega) (by first | decide | omega))
  | (with_reducible refine x_div ?h ?_); (case h => exact div_ok (by first | decide | omega) (by first | decide | omega))
  | with_reducible refine x_ipA ?_
  | (with_reducible show wAugL _ _ _ _ _ _); refine x_augL rfl ?_
  | (with_reducible show wAug _ _ _ _ _); refine x_aug rfl ?_
  | (with_reducible show ∃ k' ds d, Sl.f (D.int _) = Sl.f (D.int k') ∧ _); refine x_augL1 rfl (by decide) rfl ?_
  | (with_reducible show ∃ k' j ds, Sl.f (D.int _) = Sl.f (D.int k') ∧ _ = some (some (Sl.own (O.lst ds))) ∧ ixN _ k' = some j ∧ _); refine x_setL1 rfl rfl ?_; (try dsimp only [List.set_cons_succ, List.set_cons_zero])
  | (with_reducible show ∃ ds j, _ = some (some (Sl.own (O.lst ds))) ∧ ixN _ _ = some j ∧ _); refine x_augL2 rfl rfl ?_; (try dsimp only [List.set_cons_succ, List.set_cons_zero])
  | (with_reducible show gSetL _ _ _ _ _); refine x_setL rfl ?_
  | (with_reducible show dIx (D.lst _) (D.int _) _); refine x_ixL rfl ?_
  | (with_reducible show dIx (D.tup _) (D.int _) _); refine x_ixT rfl ?_
  | with_reducible refine x_cb ?_
  | (with_reducible show wCB1 _ _ _ _); refine x_cb1 rfl rfl ?_
  | with_reducible refine x_fm ?_
  | with_reducible refine x_exl ?_
  | with_reducible refine x_ext ?_
  | with_reducible refine x_exs ?_
  | with_reducible refine x_exi ?_
  | with_reducible refine x_sl ?_
  | with_reducible refine x_slN ?_
  | with_reducible refine x_slS ?_
  | with_reducible refine x_frz ?_
  | with_reducible refine x_frL ?_
  | with_reducible refine x_revT ?_
  | with_reducible refine x_revL ?_
  | with_reducible refine x_splitO ?_
  | (with_reducible show wSlO _ _ _ _ _); refine x_slO rfl ?_
  | (with_reducible show ∃ ds2, _ = some (some (Sl.own (O.lst ds2))) ∧ _); refine x_exOl rfl ?_
  | with_reducible refine x_dictO ?_
  | with_reducible refine x_psC ?_
  | with_reducible refine x_psN ?_
  | with_reducible refine x_get ?_
  | (with_reducible show gSetSl _ _ _ _ _ _); refine x_setSl rfl ?_
  | with_reducible refine x_split ?_
  | with_reducible refine x_isN1 ?_
  | with_reducible refine x_isN0 rfl ?_
  | with_reducible refine x_iZ ?_
  | with_reducible refine x_zT ?_
  | with_reducible refine x_zL ?_
  | with_reducible refine x_stp ?_
  | with_reducible refine x_js ?_
  | with_reducible refine x_jsC ?_
  | with_reducible refine x_jsN ?_
  | with_reducible refine x_fmt ?_
  | with_reducible refine x_callFX ?_
  | (with_reducible refine x_glp ?h ?_); (case h => rfl)
  | with_reducible refine x_raiseR ?_
  | with_reducible refine x_row ?_
  | with_reducible refine x_lenL ?_
  | with_reducible refine x_lenT ?_
  | with_reducible refine x_lenD ?_
  | (with_reducible refine x_lenS ?h ?_); (case h => walk_at "sz")
  | with_reducible refine x_max ?_
  | with_reducible refine x_min ?_
  | with_reducible refine x_intI ?_
  | with_reducible refine x_intB ?_
  | (with_reducible refine x_isInt ?h ?_); (case h => first | assumption | exact part_ty (by assumption) | (intro _ hh; cases hh; done))
  | (with_reducible refine x_isBl ?h ?_); (case h => first | assumption | exact part_ty (by assumption) | (intro _ hh; cases hh; done))
  | (with_reducible refine x_isStr ?h ?_); (case h => first | assumption | exact part_ty (by assumption) | (intro _ hh; cases hh; done))
  | (with_reducible refine x_isTup ?h ?_); (case h => first | assumption | exact part_ty (by assumption) | (intro _ hh; cases hh; done))
  | (with_reducible refine x_isLst ?h ?_); (case h => first | assumption | exact part_ty (by assumption) | (intro _ hh; cases hh; done))
  | (with_reducible refine x_isDic ?h ?_); (case h => first | assumption | exact part_ty (by assumption) | (intro _ hh; cases hh; done))
  | (with_reducible refine x_itTe ?e ?_); (case e => rfl)
  | (with_reducible refine x_itFe ?e ?_); (case e => rfl)
  | with_reducible refine x_dnewO ?_
  | with_reducible refine x_dput ?_
  | with_reducible refine x_dix ?_
  | with_reducible refine x_sortedD ?_
  | with_reducible refine x_star ?_
  | with_reducible refine x_starT ?_
  | with_reducible refine x_frzD ?_
  | with_reducible refine x_sw ?_
  | with_reducible refine x_cnt ?_
  | with_reducible refine x_waC ?_
  | with_reducible refine x_waN ?_
  | with_reducible refine x_lenDD ?_
  | with_reducible refine x_allX ?_
  | (with_reducible show wFz _ _ _ _); refine x_fz rfl ?_
  | (with_reducible show wFzS _ _ _ _); refine x_fzS rfl ?_
  | (with_reducible show wFzO _ _ _ _); refine x_fzO rfl ?_
  | (with_reducible show wiK _ _ _); refine x_iK rfl ?_
  | (with_reducible show wiIt _ _ _); refine x_iIt rfl ?_
  | with_reducible refine x_iE1 ?_
  | with_reducible refine x_forR ?_
  | (with_reducible show wDIxV _ _ _ _); refine x_dixV rfl (cd_dicO _) ?_
  | (with_reducible show wDPop _ _ _ _); refine x_dpop rfl ?_
  | with_reducible refine x_pickO ?_
  | (with_reducible show wExt _ _ _ _); refine x_extO rfl ?_
  | with_reducible refine x_sortedR ?_
  | with_reducible refine x_sortedL ?_
  | with_reducible refine x_ixSt ?_
  | (with_reducible show wiVal _ _ _); refine x_iVal rfl ?_
  | with_reducible refine x_dictP ?_
  | with_reducible refine x_dictZip ?_
  | with_reducible refine x_revS ?_
  | with_reducible refine x_par ?_
  | (with_reducible show wIsiV _ _ _ _ _); refine x_isiV rfl ?_
  | ((with_reducible show _ ∧ _); refine And.intro (Nat.le_of_ble_eq_true rfl) ?_))
local macro_rules | `(tactic| walk_at "x") => `(tactic| repeat (walk_at "x1"))

section
variable {P : Program} {w : World} {K : PySem.W.Frag} {mg : Str → Option Value} {base : Heap} {tabs : List Addr}
/-! ### the pool of a law -/
def wCellAt : WFn := fun ds Q => ∃ (ns : List Int) (k : Int), ds = [.lst (ns.map D.int), .int k] ∧ ns.length ≤ 63 ∧ 0 ≤ k ∧ ∀ c : Int, Q (.f (.int c))
theorem mono__law_cell_at : MonoF wCellAt := fun ds Q Q' i ⟨ns, k, h, h1, h2, q⟩ => ⟨ns, k, h, h1, h2, fun c => i _ (q c)⟩
theorem ok_cell_at (T : Txt K mg) (A : At K mg "_law_cell_at" s__law_cell_at ["script", "k"]) : Cal P w K mg base 1 "_law_cell_at" (spW K tabs (liftF wCellAt)) := by
  refine A.of fun f fd F => fx_fnF F sc__law_cell_at (fun ds Q ⟨ns, k, h, _⟩ => by rw [h]; rfl) fun cdv A outer s H E TT P0 σ0 hcd hr => ⟨_, (gss_cons (gs_if (gt_cmp opx_lt (GE.of_pure (gp_var (pv 1))) (ge_cbB1 cax_len (by rfl) T.z_len (by decide +kernel) (pv 0)) (nomark _))
      (gss_one (gs_ret (GE.of_pure (gp_ix ixx (gp_var (pv 0)) (gp_var (pv 1)) (fun _ _ => rfl)))))
      gss_nil)
      (gss_one (gs_ret (GE.of_pure gp_int)))), fun ds Q ⟨ns, k, h, h1, h2, q⟩ => ?_⟩
  subst h
  refine x_start (e := [some (.f (.lst (ns.map D.int))), some (.f (.int k))]) rfl ?_
  walk_at "x"
  rw [List.length_map]
  refine x_iteD (fun h3 => ?_) (fun h3 => ?_)
  · walk_at "x"
    refine x_ixM h2 (by rw [List.length_map]; omega) fun d hd => ?_
    obtain ⟨c, _, rfl⟩ := List.mem_map.mp hd
    walk_at "x"
    exact q c
  · walk_at "x"
    exact q 0
theorem mono__law_pool : MonoF wUrn := mono__law_urn
theorem ok_pool (T : Txt K mg) (A : At K mg "_law_pool" s__law_pool ["cell", "place"]) : Cal P w K mg base 1 "_law_pool" (spW K tabs (liftF wUrn)) := by
  refine A.of fun f fd F => fx_fnF F sc__law_pool (fun ds Q ⟨c, k, h, _⟩ => by rw [h]; rfl) fun cdv A outer s H E TT P0 σ0 hcd hr => ⟨_, (gss_one (gs_ret (ge_lstOD (gd_cons (ge_cbB (cax_max2 rfl) (by rfl) T.z_max (by decide +kernel) (gd_cons (GE.of_pure (gp_op opx_sub (gp_var (pv 0)) (gp_op opx_pow gp_int gp_int))) (gd_cons (GE.of_pure gp_int) gd_nil))) (gd_cons (GE.of_pure (gp_op opx_mod (gp_op opx_add (gp_op opx_mod (gp_var (pv 0)) gp_int) (gp_op opx_mul gp_int (gp_var (pv 1)))) gp_int)) (gd_cons (GE.of_pure gp_int) gd_nil)))))), fun ds Q ⟨c, k, h, k0, k1, q⟩ => ?_⟩
  subst h
  refine x_start (e := [some (.f (.int c)), some (.f (.int k))]) rfl ?_
  walk_at "x"
  refine q _ ⟨_, _, _, rfl, ?_, Int.le_refl _, Int.le_refl _⟩
  have z : (2147483629 : Nat) < 2 ^ 200 := by decide
  have a := Int.emod_nonneg (c % 2147483629 + 40009 * k) (show (2147483629 : Int) ≠ 0 by decide)
  have b := Int.emod_lt_of_pos (c % 2147483629 + 40009 * k) (show (0 : Int) < 2147483629 by decide)
  omega
theorem mono__law_draw : MonoU2 wLot := mono__law_lot
theorem ok_draw (A : At K mg "_law_draw" s__law_draw ["pool", "many"]) : Cal P w K mg base 1 "_law_draw" (spW K tabs (liftU wLot)) := by
  refine A.of fun f fd F => fx_fnU F sc__law_draw (fun o ds Q ⟨n, m, h, _⟩ => by rw [h]; rfl) fun cdv A outer s H E TT P0 σ0 hcd hr => ⟨_, (gss_cons (gs_asg (GE.of_pure (gp_op opx_add (gp_ix ixx (gp_var (pv 0)) gp_int (fun _ _ => rfl)) gp_int)) (gg_setL (pv 0) (GE.of_pure gp_int)))
      (gss_cons (gs_setE (i := 2) sc__law_draw.nd rfl (Or.inl rfl) (GE.of_pure (gp_op opx_mod (gp_op opx_pow (gp_op opx_add (gp_op opx_add (gp_ix ixx (gp_var (pv 0)) gp_int (fun _ _ => rfl)) (gp_op opx_mul (gp_op opx_mul gp_int (gp_ix ixx (gp_var (pv 0)) gp_int (fun _ _ => rfl))) (gp_ix ixx (gp_var (pv 0)) gp_int (fun _ _ => rfl)))) gp_int) gp_int) gp_int)))
      (gss_cons (gs_asg (GE.of_pure (gp_op opx_mod (gp_op opx_add (gp_op opx_mul (gp_var (pv 2)) gp_int) (gp_op opx_mul gp_int (gp_ix ixx (gp_var (pv 0)) gp_int (fun _ _ => rfl)))) gp_int)) (gg_setL (pv 0) (GE.of_pure gp_int)))
      (gss_cons (gs_setE (i := 3) sc__law_draw.nd rfl (Or.inl rfl) (GE.of_pure (gp_op opx_mod (gp_op opx_div (gp_ix ixx (gp_var (pv 0)) gp_int (fun _ _ => rfl)) gp_int) (gp_var (pv 1)))))
      (gss_cons (gs_if (gt_cmpP opx_gt (gp_ix ixx (gp_var (pv 0)) gp_int (fun _ _ => rfl)) gp_int (nomark _))
      (gss_cons (gs_setE (i := 3) sc__law_draw.nd rfl (Or.inl rfl) (GE.of_pure (gp_op opx_mod (gp_ix ixx (gp_var (pv 0)) gp_int (fun _ _ => rfl)) (gp_var (pv 1)))))
      (gss_one (gs_asg (GE.of_pure (gp_op opx_div (gp_ix ixx (gp_var (pv 0)) gp_int (fun _ _ => rfl)) (gp_var (pv 1)))) (gg_setL (pv 0) (GE.of_pure gp_int)))))
      gss_nil)
      (gss_one (gs_ret (GE.of_pure (gp_var (pv 3)))))))))), fun o ds Q ⟨n, m, h, ⟨a, b, c, ho, hb, hc, hc2⟩, hn, hm, hm2, q⟩ => ?_⟩
  subst h ho
  refine x_start (e := [some (.own (.lst [.int a, .int b, .int c])), some (.f (.int m)), none, none]) rfl ?_
  walk_at "x"
  have hs : (c + 1) * (c + 1) ≤ 100001 * 100001 := Int.mul_le_mul (by omega) (by omega) (by omega) (by decide)
  have hs0 : 0 ≤ (c + 1) * (c + 1) := Int.mul_nonneg (by omega) (by omega)
  refine x_pow (pow_ok (a := 240) ?_ (by decide) (by decide) (by decide)) ?_
  · rw [Int.mul_assoc]
    have e : (2 : Nat) ^ 200 + 7 * (100001 * 100001) + 1 < 2 ^ 240 := by decide
    omega
  walk_at "x"
  generalize (b + 7 * (c + 1) * (c + 1) + 1) ^ Int.toNat 2 % 2147483587 = st
  have z : (2147483629 : Nat) < 2 ^ 200 := by decide
  have b0 := Int.emod_nonneg (st * 69621 + 40692 * (c + 1)) (show (2147483629 : Int) ≠ 0 by decide)
  have b1 := Int.emod_lt_of_pos (st * 69621 + 40692 * (c + 1)) (show (0 : Int) < 2147483629 by decide)
  generalize (st * 69621 + 40692 * (c + 1)) % 2147483629 = b2 at b0 b1
  refine x_iteD (fun ha => ?_) (fun ha => ?_)
  · walk_at "x"
    exact q _ _ (Int.emod_nonneg _ (by omega)) (Int.emod_lt_of_pos _ hm) ⟨_, _, _, rfl, by omega, by omega, by omega⟩
  · walk_at "x"
    exact q _ _ (Int.emod_nonneg _ (by omega)) (Int.emod_lt_of_pos _ hm) ⟨_, _, _, rfl, by omega, by omega, by omega⟩

end
end K75

namespace K75
open PySem PySem.Spec PyProof.Rows L2 Lk Evl Fx



local macro_rules | `(tactic| walk_at "sz") => `(tactic| first
  | exact Nat.le_of_ble_eq_true rfl
  | assumption
  | exact small_sz (Nat.le_of_ble_eq_true rfl)
  | (simp only [List.length_cons, List.length_nil, List.length_map, List.length_append]; first | omega | exact small_sz (by omega)))
local macro_rules | `(tactic| walk_at "x1") => `(tactic| first
  | with_reducible refine x_seq ?_
  | (with_reducible show wVar _ _ _); first | refine x_varF rfl ?_ | refine x_varO rfl ?_ | refine x_varV rfl ?_
  | with_reducible refine x_c ?_
  | with_reducible refine x_exf ?_
  | with_reducible refine x_excd ?_
  | (with_reducible show ∃ d1, Sl.cd (Sl.vw _) = some d1 ∧ _); refine x_excV rfl ?_
  | (with_reducible show ∃ d1, Sl.cd (Sl.own _) = some d1 ∧ _); refine x_excO rfl ?_
  | with_reducible refine x_binP ?_
  | with_reducible refine x_bin ?_
  | with_reducible refine x_adC ?_
  | with_reducible refine x_adN ?_
  | with_reducible refine x_lst ?_
  | with_reducible refine x_tup ?_
  | with_reducible refine x_lstO ?_
  | (with_reducible refine x_and (p := _ ≤ sizeLine) ?h ?_); (case h => walk_at "sz")
  | with_reducible refine x_callF ?_
  | with_reducible refine x_callL ?_
  | with_reducible refine x_listO ?_
  | (with_reducible show wCallU _ _ _ _ _); refine x_callU rfl ?_
  | with_reducible refine x_callV ?_
  | with_reducible refine x_join ?_
  | with_reducible refine x_waD ?_
  | with_reducible refine x_lc ?_
  | with_reducible refine x_lc2 ?_
  | with_reducible refine x_lenSets ?_
  | (with_reducible show wApp _ _ _ _); refine x_app rfl ?_
  | (with_reducible show wBinV _ _ _ _ _); refine x_binV rfl ?_
  | (with_reducible show wPopD _ _ _ _); refine x_popD rfl ?_
  | (with_reducible show wCatV _ _ _ _); refine x_catV rfl ?_
  | with_reducible refine x_slN2 ?_
  | with_reducible refine x_sortedSets ?_
  | with_reducible refine x_tplL ?_
  | with_reducible refine x_tplT ?_
  | with_reducible refine x_isB ?_
  | with_reducible refine x_r1 ?_
  | with_reducible refine x_r2 ?_
  | (with_reducible refine x_r1e ?h0 ?h1 ?_); (case h0 => omega); (case h1 => omega)
  | with_reducible refine x_iL ?_
  | with_reducible refine x_iT ?_
  | with_reducible refine x_iS ?_
  | with_reducible refine x_iE ?_
  | with_reducible refine x_iEe ?_
  | with_reducible refine x_yes ?_
  | with_reducible refine x_for ?_
  | (with_reducible show wLot _ [D.int _] _); (refine' x_lot (by assumption) ?h1 ?h2 ?h3 ?_); (case h1 => omega); (case h2 => first | decide | omega); (case h3 => first | decide | omega)
  | (with_reducible show ∃ o, _ = some (some (Sl.own o)) ∧ _); refine x_exO rfl ?_
  | with_reducible refine x_exo ?_
  | with_reducible refine x_ret ?_
  | with_reducible refine x_set ?_
  | with_reducible refine x_fin ?_
  | with_reducible refine x_fino ?_
  | (with_reducible refine x_and (p := _ < List.length _) ?h ?_); (case h => exact Nat.le_of_ble_eq_true rfl); (try dsimp only [List.set_cons_succ, List.set_cons_zero])
  | with_reducible refine x_next ?_
  | with_reducible refine x_retN ?_
  | with_reducible refine x_drop ?_
  | with_reducible refine x_asg ?_
  | (with_reducible refine x_gtp ?h ?_); (case h => rfl)
  | with_reducible refine x_gcons ?_
  | with_reducible refine x_gnil ?_
  | (with_reducible refine x_gn ?h ?_); (case h => exact Nat.le_of_ble_eq_true rfl); (try dsimp only [List.set_cons_succ, List.set_cons_zero])
  | with_reducible refine x_ifS ?_
  | with_reducible refine x_if ?_
  | with_reducible refine x_itT ?_
  | with_reducible refine x_itF ?_
  | with_reducible refine x_iteN ?_
  | with_reducible refine x_tru ?_
  | with_reducible refine x_tB ?_
  | with_reducible refine x_dtB ?_
  | with_reducible refine x_dtN ?_
  | with_reducible refine x_exb ?_
  | with_reducible refine x_exdb ?_
  | with_reducible refine x_tand ?_
  | with_reducible refine x_tor ?_
  | with_reducible refine x_tnot ?_
  | with_reducible refine x_and2 ?_
  | with_reducible refine x_or2 ?_
  | with_reducible refine x_not2 ?_
  | with_reducible refine x_chain ?_
  | with_reducible refine x_sub ?_
  | with_reducible refine x_addI ?_
  | (with_reducible refine x_addS ?h ?_); (case h => walk_at "sz")
  | (with_reducible refine x_addL ?h ?_); (case h => walk_at "sz")
  | (with_reducible refine x_addT ?h ?_); (case h => walk_at "sz")
  | with_reducible refine x_lt ?_
  | with_reducible refine x_le ?_
  | with_reducible refine x_gt ?_
  | with_reducible refine x_ge ?_
  | with_reducible refine x_ltS ?_
  | with_reducible refine x_eqI ?_
  | with_reducible refine x_neI ?_
  | with_reducible refine x_allSg ?_
  | with_reducible refine x_m0 ?_
  | with_reducible refine x_lstT ?_
  | with_reducible refine x_lstL ?_
  | with_reducible refine x_strB ?_
  | with_reducible refine x_strN ?_
  | with_reducible refine x_strS ?_
  | with_reducible refine x_isT ?_
  | with_reducible refine x_isI ?_
  | with_reducible refine x_neg ?_
  | with_reducible refine x_un ?_
  | (with_reducible refine x_pow ?h ?_); (case h => exact ⟨by decide, by decide +kernel⟩)
  | (with_reducible refine x_mod ?h ?_); (case h => first | decide | omega)
  | (with_reducible refine x_mul ?h ?_); (case h => exact mul_ok (by first | decide | omega) (by first | decide | omega))
  | (with_reducible refine x_div ?h ?_); (case h => exact div_ok (by first | decide | omega) (by first | decide | omega))
  | with_reducible refine x_ipA ?_
  | (with_reducible show wAugL _ _ _ _ _ _); refine x_augL rfl ?_
  | (with_reducible show wAug _ _ _ _ _); refine x_aug rfl ?_
  | (with_reducible show ∃ k' ds d, Sl.f (D.int _) = Sl.f (D.int k') ∧ _); refine x_augL1 rfl (by decide) rfl ?_
  | (with_reducible show ∃ k' j ds, Sl.f (D.int _) = Sl.f (D.int k') ∧ _ = some (some (Sl.own (O.lst ds))) ∧ ixN _ k' = some j ∧ _); refine x_setL1 rfl rfl ?_; (try dsimp only [List.set_cons_succ, List.set_cons_zero])
  | (with_reducible show ∃ ds j, _ = some (some (Sl.own (O.lst ds))) ∧ ixN _ _ = some j ∧ _); refine x_augL2 rfl rfl ?_; (try dsimp only [List.set_cons_succ, List.set_cons_zero])
  | (with_reducible show gSetL _ _ _ _ _); refine x_setL rfl ?_
  | (with_reducible show dIx (D.lst _) (D.int _) _); refine x_ixL rfl ?_
  | (with_reducible show dIx (D.tup _) (D.int _) _); refine x_ixT rfl ?_
  | with_reducible refine x_cb ?_
  | (with_reducible show wCB1 _ _ _ _); refine x_cb1 rfl rfl ?_
  | with_reducible refine x_fm ?_
  | with_reducible refine x_exl ?_
  | with_reducible refine x_ext ?_
  | with_reducible refine x_exs ?_
  | with_reducible refine x_exi ?_
  | with_reducible refine x_sl ?_
  | with_reducible refine x_slN ?_
  | with_reducible refine x_slS ?_
  | with_reducible refine x_frz ?_
  | with_reducible refine x_frL ?_
  | with_reducible refine x_revT ?_
  | with_reducible refine x_revL ?_
  | with_reducible refine x_splitO ?_
  | (with_reducible show wSlO _ _ _ _ _); refine x_slO rfl ?_
  | (with_reducible show ∃ ds2, _ = some (some (Sl.own (O.lst ds2))) ∧ _); refine x_exOl rfl ?_
  | with_reducible refine x_dictO ?_
  | with_reducible refine x_psC ?_
  | with_reducible refine x_psN ?_
  | with_reducible refine x_get ?_
  | (with_reducible show gSetSl _ _ _ _ _ _); refine x_setSl rfl ?_
  | with_reducible refine x_split ?_
  | with_reducible refine x_isN1 ?_
  | with_reducible refine x_isN0 rfl ?_
  | with_reducible refine x_iZ ?_
  | with_reducible refine x_zT ?_
  | with_reducible refine x_zL ?_
  | with_reducible refine x_stp ?_
  | with_reducible refine x_js ?_
  | with_reducible refine x_jsC ?_
  | with_reducible refine x_jsN ?_
  | with_reducible refine x_fmt ?_
  | with_reducible refine x_callFX ?_
  | (with_reducible refine x_glp ?h ?_); (case h => rfl)
  | with_reducible refine x_raiseR ?_
  | with_reducible refine x_row ?_
  | with_reducible refine x_lenL ?_
  | with_reducible refine x_lenT ?_
  | with_reducible refine x_lenD ?_
  | (with_reducible refine x_lenS ?h ?_); (case h => walk_at "sz")
  | with_reducible refine x_max ?_
  | with_reducible refine x_min ?_
  | with_reducible refine x_intI ?_
  | with_reducible refine x_intB ?_
  | (with_reducible refine x_isInt ?h ?_); (case h => first | assumption | exact part_ty (by assumption) | (intro _ hh; cases hh; done))
  | (with_reducible refine x_isBl ?h ?_); (case h => first | assumption | exact part_ty (by assumption) | (intro _ hh; cases hh; done))
  | (with_reducible refine x_isStr ?h ?_); (case h => first | assumption | exact part_ty (by assumption) | (intro _ hh; cases hh; done))
  | (with_reducible refine x_isTup ?h ?_); (case h => first | assumption | exact part_ty (by assumption) | (intro _ hh; cases hh; done))
  | (with_reducible refine x_isLst ?h ?_); (case h => first | assumption | exact part_ty (by assumption) | (intro _ hh; cases hh; done))
  | (with_reducible refine x_isDic ?h ?_); (case h => first | assumption | exact part_ty (by assumption) | (intro _ hh; cases hh; done))
  | (with_reducible refine x_itTe ?e ?_); (case e => rfl)
  | (with_reducible refine x_itFe ?e ?_); (case e => rfl)
  | with_reducible refine x_dnewO ?_
  | with_reducible refine x_dput ?_
  | with_reducible refine x_dix ?_
  | with_reducible refine x_sortedD ?_
  | with_reducible refine x_star ?_
  | with_reducible refine x_starT ?_
  | with_reducible refine x_frzD ?_
  | with_reducible refine x_sw ?_
  | with_reducible refine x_cnt ?_
  | with_reducible refine x_waC ?_
  | with_reducible refine x_waN ?_
  | with_reducible refine x_lenDD ?_
  | with_reducible refine x_allX ?_
  | (with_reducible show wFz _ _ _ _); refine x_fz rfl ?_
  | (with_reducible show wFzS _ _ _ _); refine x_fzS rfl ?_
  | (with_reducible show wFzO _ _ _ _); refine x_fzO rfl ?_
  | (with_reducible show wiK _ _ _); refine x_iK rfl ?_
  | (with_reducible show wiIt _ _ _); refine x_iIt rfl ?_
  | with_reducible refine x_iE1 ?_
  | with_reducible refine x_forR ?_
  | (with_reducible show wDIxV _ _ _ _); refine x_dixV rfl (cd_dicO _) ?_
  | (with_reducible show wDPop _ _ _ _); refine x_dpop rfl ?_
  | with_reducible refine x_pickO ?_
  | (with_reducible show wExt _ _ _ _); refine x_extO rfl ?_
  | with_reducible refine x_sortedR ?_
  | with_reducible refine x_sortedL ?_
  | with_reducible refine x_ixSt ?_
  | (with_reducible show wiVal _ _ _); refine x_iVal rfl ?_
  | with_reducible refine x_dictP ?_
  | with_reducible refine x_dictZip ?_
  | with_reducible refine x_revS ?_
  | with_reducible refine x_par ?_
  | (with_reducible show wIsiV _ _ _ _ _); refine x_isiV rfl ?_
  | ((with_reducible show _ ∧ _); refine And.intro (Nat.le_of_ble_eq_true rfl) ?_))
local macro_rules | `(tactic| walk_at "x") => `(tactic| repeat (walk_at "x1"))

section
variable {P : Program} {w : World} {K : PySem.W.Frag} {mg : Str → Option Value} {base : Heap} {tabs : List Addr}
/-! ### spans, names -/
def wSpanL : WUn := fun o ds Q => ∃ (n : Nat) (way : Int), ds = [.int way] ∧ Un o n ∧ n + 2 ≤ 100000 ∧ ∀ (s u : Int) o', 0 ≤ s → s < u → u ≤ 1000000 → Un o' (n + 2) → Q (.f (.tup [.int s, .int u])) o'
theorem mono__law_span : MonoU2 wSpanL := fun o ds Q Q' i ⟨n, way, h1, h2, h3, q⟩ => ⟨n, way, h1, h2, h3, fun s u o' a b c d => i _ _ (q s u o' a b c d)⟩
theorem ok_lspan (c__law_draw : Cal P w K mg base 1 "_law_draw" (spW K tabs (liftU wLot))) (A : At K mg "_law_span" s__law_span ["pool", "way"]) : Cal P w K mg base 2 "_law_span" (spW K tabs (liftU wSpanL)) := by
  refine A.of fun f fd F => fx_fnU F sc__law_span (fun o ds Q ⟨n, m, h, _⟩ => by rw [h]; rfl) fun cdv A outer s H E TT P0 σ0 hcd hr => ⟨_, (gss_cons (gs_setE (i := 2) sc__law_span.nd rfl (Or.inl rfl) (ge_callU c__law_draw hr (by decide) rfl rfl rfl mono__law_draw (pv 0) (gd_cons (GE.of_pure gp_int) gd_nil)))
      (gss_cons (gs_if (gt_cmpP (opx_eq hr.units) (gp_var (pv 1)) gp_int (nomark _))
      (gss_one (gs_ret (ge_tupD (gd_cons (GE.of_pure gp_int) (gd_cons (GE.of_pure gp_int) gd_nil)))))
      gss_nil)
      (gss_cons (gs_if (gt_cmpP (opx_eq hr.units) (gp_var (pv 1)) gp_int (nomark _))
      (gss_one (gs_ret (ge_tupD (gd_cons (GE.of_pure (gp_var (pv 2))) (gd_cons (ge_op opx_add (GE.of_pure (gp_op opx_add (gp_var (pv 2)) gp_int)) (ge_callU c__law_draw hr (by decide) rfl rfl rfl mono__law_draw (pv 0) (gd_cons (GE.of_pure gp_int) gd_nil))) gd_nil)))))
      gss_nil)
      (gss_one (gs_ret (ge_tupD (gd_cons (GE.of_pure (gp_op opx_div (gp_var (pv 2)) gp_int)) (gd_cons (ge_op opx_add (GE.of_pure gp_int) (ge_callU c__law_draw hr (by decide) rfl rfl rfl mono__law_draw (pv 0) (gd_cons (GE.of_pure gp_int) gd_nil))) gd_nil)))))))), fun o ds Q ⟨n, way, h, u, hn, q⟩ => ?_⟩
  subst h
  refine x_start (e := [some (.own o), some (.f (.int way)), none]) rfl ?_
  walk_at "x"
  intro a o1 a0 a1 u1
  walk_at "x"
  refine x_iteD (fun h1 => ?_) (fun h1 => ?_)
  · walk_at "x"
    exact q _ _ _ (by decide) (by decide) (by decide) (u1.mono (by omega))
  · walk_at "x"
    refine x_iteD (fun h2 => ?_) (fun h2 => ?_)
    · walk_at "x"
      intro b o2 b0 b1 u2
      walk_at "x"
      exact q _ _ _ (by omega) (by omega) (by omega) u2
    · walk_at "x"
      intro b o2 b0 b1 u2
      walk_at "x"
      exact q _ _ _ (by omega) (by omega) (by omega) u2
def wNames : WUn := fun o ds Q => ∃ (n : Nat) (m : Int), ds = [.int m] ∧ Un o n ∧ n + 100 ≤ 100000 ∧ 0 ≤ m ∧ m ≤ 9 ∧ ∀ (xs : List Str) o', (xs.length : Int) = m → (∀ x ∈ xs, nameB (.str x) = true) → xs.Nodup → Un o' (n + 100) → Q (.f (.lst (xs.map D.str))) o'
theorem mono__law_names : MonoU2 wNames := fun o ds Q Q' i ⟨n, m, h1, h2, h3, h4, h5, q⟩ => ⟨n, m, h1, h2, h3, h4, h5, fun xs o' a b c d => i _ _ (q xs o' a b c d)⟩

/-! ### words of small letters -/
def low (a : Str) : Prop := ∀ c ∈ a.cps.toList, 97 ≤ c ∧ c ≤ 122
theorem btw_iff {c : Nat} : btw "a" "z" c = true ↔ 97 ≤ c ∧ c ≤ 122 := by
  unfold btw
  rw [Bool.and_eq_true, show (Str.ofString "a").cps.toList = [97] by decide +kernel, show (Str.ofString "z").cps.toList = [122] by decide +kernel, Bool.not_eq_true', Bool.not_eq_true', decide_eq_false_iff_not, decide_eq_false_iff_not]
  constructor
  · rintro ⟨h1, h2⟩
    refine ⟨?_, ?_⟩
    · by_cases h : c < 97
      · exact absurd (List.Lex.rel h) h1
      · omega
    · by_cases h : 122 < c
      · exact absurd (List.Lex.rel h) h2
      · omega
  · rintro ⟨h1, h2⟩
    refine ⟨fun h => ?_, fun h => ?_⟩
    · cases h with
      | rel h => omega
      | cons h => cases h
    · cases h with
      | rel h => omega
      | cons h => cases h
theorem name_iff {a : Str} : nameB (.str a) = true ↔ 1 ≤ a.length ∧ a.length ≤ 8 ∧ low a := by
  show (decide ((1 : Int) ≤ (a.length : Int)) && (decide ((a.length : Int) ≤ 8) && Fx.nmB "a" "z" a)) = true ↔ _
  unfold Fx.nmB
  rw [Bool.and_eq_true, Bool.and_eq_true, decide_eq_true_iff, decide_eq_true_iff, show a.cps.size = a.cps.toList.length by simp, rng_all, List.all_eq_true]
  constructor
  · rintro ⟨h1, h2, h3⟩
    exact ⟨by omega, by omega, fun c hc => btw_iff.mp (h3 c hc)⟩
  · rintro ⟨h1, h2, h3⟩
    exact ⟨by omega, by omega, fun c hc => btw_iff.mpr (h3 c hc)⟩
theorem low_app {a b : Str} (ha : low a) (hb : low b) : low (a ++ b) := fun c hc => by
  have e : (a ++ b).cps.toList = a.cps.toList ++ b.cps.toList := by
    show (a.cps ++ b.cps).toList = _
    rw [Array.toList_append]
  rw [e] at hc
  rcases List.mem_append.mp hc with h | h
  · exact ha c h
  · exact hb c h
/-- "".join of single small letters -/
theorem low_join : ∀ {ls : List Str}, (∀ x ∈ ls, low x ∧ x.length = 1) → low (Txt.join "" ls) ∧ (Txt.join "" ls).length = ls.length
  | [], _ => ⟨(fun c hc => (List.not_mem_nil (show c ∈ ([] : List Nat) from hc)).elim), by decide +kernel⟩
  | [x], h => by
    obtain ⟨h1, h2⟩ := h x (List.mem_singleton.mpr rfl)
    exact ⟨h1, h2⟩
  | x :: y :: r, h => by
    obtain ⟨i1, i2⟩ := low_join (ls := y :: r) fun z hz => h z (List.mem_cons_of_mem _ hz)
    obtain ⟨h1, h2⟩ := h x (List.mem_cons_self ..)
    have e : Txt.join "" (x :: y :: r) = x ++ Txt.join "" (y :: r) := by
      refine TL.ext_tl ?_
      rw [show Txt.join "" (x :: y :: r) = x ++ "" ++ Txt.join "" (y :: r) from by rw [TL.join_eq, TL.join_eq]; rfl]
      rw [TL.tl_append, TL.tl_append, TL.tl_append]
      show TL.tl x ++ [] ++ _ = _
      rw [List.append_nil]
    rw [e]
    refine ⟨low_app h1 i1, ?_⟩
    rw [TL.len_tl, TL.tl_append, List.length_append, ← TL.len_tl, ← TL.len_tl, h2, i2]
    simp only [List.length_cons]
    omega

/-! ### lists of texts -/
theorem nodup_le {l m : List Str} : l.Nodup → (∀ x ∈ l, x ∈ m) → l.length ≤ m.length := by
  induction l generalizing m with
  | nil => intros; exact Nat.zero_le _
  | cons x l ih =>
    intro nd h
    obtain ⟨hx, nd⟩ := List.nodup_cons.mp nd
    have hm := h x (List.mem_cons_self ..)
    have i := ih (m := m.erase x) nd fun y hy => (List.mem_erase_of_ne (fun e => hx (by rw [← e]; exact hy))).mpr (h y (List.mem_cons_of_mem _ hy))
    rw [List.length_erase_of_mem hm] at i
    have := List.length_pos_of_mem hm
    rw [List.length_cons]
    omega
theorem met_mem {key : Nat → Str} : ∀ (i : Nat) (x : Str), x ∈ SS.met key i → ∃ j, j < i ∧ x = key j
  | 0, x, h => by cases h
  | i + 1, x, h => by
    unfold SS.met at h
    split at h
    · obtain ⟨j, h1, h2⟩ := met_mem i x h
      exact ⟨j, by omega, h2⟩
    · rcases List.mem_append.mp h with h | h
      · obtain ⟨j, h1, h2⟩ := met_mem i x h
        exact ⟨j, by omega, h2⟩
      · exact ⟨i, by omega, List.mem_singleton.mp h⟩
theorem met_nodup {key : Nat → Str} : ∀ i : Nat, (SS.met key i).Nodup
  | 0 => List.nodup_nil
  | i + 1 => by
    unfold SS.met
    split
    · exact met_nodup i
    · rename_i h
      refine List.nodup_append.mpr ⟨met_nodup i, List.pairwise_singleton _ _, fun a ha b hb e => h ?_⟩
      rw [List.mem_singleton.mp hb] at e
      subst e
      exact List.any_eq_true.mpr ⟨_, ha, beq_self_eq_true _⟩
theorem dst_le {xs ys : List Str} (h : ∀ x ∈ xs, x ∈ ys) : dst xs ≤ ys.length := by
  refine nodup_le (met_nodup _) fun x hx => ?_
  obtain ⟨j, h1, rfl⟩ := met_mem _ x hx
  refine h _ ?_
  rw [List.getD_eq_getElem?_getD, List.getElem?_eq_getElem h1]
  exact List.getElem_mem h1
def lets : List Str := (Str.ofString "abcdefghijklmnopqrstuvwxyz").cps.toList.map fun c => ⟨#[c]⟩
theorem lets_nodup : lets.Nodup := by decide +kernel
theorem lets_name : ∀ x ∈ lets, nameB (.str x) = true := by decide +kernel
theorem pick {xs : List Str} (hl : xs.length ≤ 9) (w : Str) (hw : nameB (.str w) = true) : ∃ y r, (w :: lets).filter (fun y => !xs.contains y) = y :: r ∧ y ∉ xs ∧ nameB (.str y) = true := by
  cases e : (w :: lets).filter (fun y => !xs.contains y) with
  | nil =>
    have h := nodup_le (m := xs) lets_nodup fun x hx => by
      by_cases hc : x ∈ xs
      · exact hc
      · have : x ∈ (w :: lets).filter (fun y => !xs.contains y) := List.mem_filter.mpr ⟨List.mem_cons_of_mem _ hx, by simpa using hc⟩
        rw [e] at this
        cases this
    have l : lets.length = 26 := by decide +kernel
    omega
  | cons y r =>
    refine ⟨y, r, rfl, ?_⟩
    have : y ∈ (w :: lets).filter (fun y => !xs.contains y) := by rw [e]; exact List.mem_cons_self ..
    obtain ⟨h1, h2⟩ := List.mem_filter.mp this
    refine ⟨by simpa using h2, ?_⟩
    rcases List.mem_cons.mp h1 with rfl | h1
    · exact hw
    · exact lets_name y h1
theorem eqB_nil {xs : List Str} : eqB (.lst (xs.map D.str)) (.lst []) = xs.isEmpty := by
  show PyData.eqv (.list (D.pyL (xs.map D.str))) (.list (D.pyL [])) = _
  cases xs with
  | nil => unfold PyData.eqv; first | rfl | decide +kernel | (unfold PyData.eqvAll; rfl)
  | cons x xs => unfold PyData.eqv; first | rfl | (unfold PyData.eqvAll; rfl)
theorem at_last {α : Type} {ds : List α} (h : 1 ≤ ds.length) : ∃ d, L2.atI ds (-1) = some d ∧ d ∈ ds := by
  have e : L2.ixN ds.length (-1) = some (ds.length - 1) := by
    unfold L2.ixN
    simp
    omega
  refine ⟨ds[ds.length - 1], ?_, List.getElem_mem _⟩
  unfold L2.atI
  rw [e]
  exact List.getElem?_eq_getElem (by omega)
theorem signs_lets : Fx.signs (Str.ofString "abcdefghijklmnopqrstuvwxyz") = lets.map D.str := by
  unfold Fx.signs lets
  rw [List.map_map]
  rfl
theorem at_map {xs : List Str} {j : Nat} {d : D} (h : (xs.map D.str)[j]? = some d) : ∃ y, xs[j]? = some y ∧ d = .str y := by
  rw [List.getElem?_map] at h
  cases e : xs[j]? with
  | none => rw [e] at h; cases h
  | some y => rw [e] at h; cases h; exact ⟨y, rfl, rfl⟩
theorem sum_ones : ∀ {ls : List Str}, (∀ x ∈ ls, x.length = 1) → (ls.map (·.length)).sum = ls.length
  | [], _ => rfl
  | x :: ls, h => by
    rw [List.map_cons, List.sum_cons, h x (List.mem_cons_self ..), sum_ones fun y hy => h y (List.mem_cons_of_mem _ hy), List.length_cons]
    omega

/-! ### parts of texts, of lists -/
theorem cut_to {ds : List D} {k : Int} (h0 : 0 ≤ k) (h1 : k ≤ (ds.length : Int)) : Fx.cutD ds none (some k) = ds.take k.toNat := by
  unfold Fx.cutD HT.sIx
  dsimp only
  rw [if_neg (by omega), List.drop_zero, Nat.sub_zero, Nat.min_eq_left (by omega)]
theorem cut_from {ds : List D} {k : Int} (h0 : 0 ≤ k) (h1 : k ≤ (ds.length : Int)) : Fx.cutD ds (some k) none = ds.drop k.toNat := by
  unfold Fx.cutD HT.sIx
  dsimp only
  rw [if_neg (by omega), Nat.min_eq_left (by omega)]
  exact List.take_of_length_le (by rw [List.length_drop]; exact Nat.le_refl _)
theorem name_cut {a : Str} (h1 : 1 ≤ a.length) (ha : low a) : nameB (.str (cutS a none (some 8))) = true := by
  have e2 : (cutS a none (some 8)).cps.toList = a.cps.toList.take 8 := by
    unfold cutS HT.sIx
    have : a.length = a.cps.toList.length := TL.len_tl a
    simp only [this]
    rw [show (8 : Int).toNat = 8 from rfl]
    simp
  have l1 : a.length = a.cps.toList.length := TL.len_tl a
  have l2 : (cutS a none (some 8)).length = (cutS a none (some 8)).cps.toList.length := TL.len_tl _
  rw [e2, List.length_take] at l2
  refine name_iff.mpr ⟨by omega, by omega, fun c hc => ?_⟩
  rw [e2] at hc
  exact ha c (List.mem_of_mem_take hc)
/-! ### what can be laid, how deep -/
def Fit (n : Nat) (d : D) : Prop := PyData.canLay0 d.py = true ∧ PyData.depth d.py ≤ n
theorem fitL {n : Nat} {ds : List D} (h : ∀ x ∈ ds, Fit n x) : PyData.canLayAll0 (D.pyL ds) = true ∧ PyData.depthAll (D.pyL ds) ≤ n := by
  induction ds with
  | nil => exact ⟨by show PyData.canLayAll0 [] = true; unfold PyData.canLayAll0; rfl, by show PyData.depthAll [] ≤ n; unfold PyData.depthAll; exact Nat.zero_le _⟩
  | cons d ds ih =>
    obtain ⟨i1, i2⟩ := ih fun c hc => h c (List.mem_cons_of_mem _ hc)
    obtain ⟨h1, h2⟩ := h d (List.mem_cons_self ..)
    refine ⟨?_, ?_⟩
    · show PyData.canLayAll0 (d.py :: D.pyL ds) = true
      unfold PyData.canLayAll0
      rw [h1, i1]
      rfl
    · show PyData.depthAll (d.py :: D.pyL ds) ≤ n
      unfold PyData.depthAll
      omega
theorem fit_tup {n : Nat} {ds : List D} (h : ∀ x ∈ ds, Fit n x) : Fit (n + 1) (.tup ds) := by
  obtain ⟨h1, h2⟩ := fitL h
  refine ⟨?_, ?_⟩
  · show PyData.canLay0 (.tuple (D.pyL ds)) = true
    unfold PyData.canLay0
    exact h1
  · show PyData.depth (.tuple (D.pyL ds)) ≤ n + 1
    unfold PyData.depth
    omega
theorem fit_lst {n : Nat} {ds : List D} (h : ∀ x ∈ ds, Fit n x) : Fit (n + 1) (.lst ds) := by
  obtain ⟨h1, h2⟩ := fitL h
  refine ⟨?_, ?_⟩
  · show PyData.canLay0 (.list (D.pyL ds)) = true
    unfold PyData.canLay0
    exact h1
  · show PyData.depth (.list (D.pyL ds)) ≤ n + 1
    unfold PyData.depth
    omega
theorem fit_str {n : Nat} {a : Str} (h : PyData.strOk a = true) : Fit n (.str a) := by
  refine ⟨?_, ?_⟩
  · show PyData.canLay0 (.str a) = true
    unfold PyData.canLay0
    exact h
  · show PyData.depth (.str a) ≤ n
    unfold PyData.depth
    exact Nat.zero_le _
theorem fit_int {n : Nat} {i : Int} : Fit n (.int i) := ⟨rfl, Nat.zero_le _⟩
theorem Fit.ok {n : Nat} {d : D} (h : Fit n d) (l : n ≤ 64) : okPy d = true := by
  unfold okPy SeqAt.shaped
  rw [h.1, decide_eq_true (Nat.le_trans h.2 l)]
  rfl
theorem Fit.prt {n : Nat} {d : D} (h : Fit n d) (l : n ≤ 64) (z : szB d = true) : part d = true := by
  unfold part
  rw [h.ok l, z]
  rfl
theorem sz_small {a : Str} (h : a.length ≤ 4096) : szB (.str a) = true := decide_eq_true (Nat.le_trans h (Nat.le_of_ble_eq_true rfl))
/-! ### rows, sound -/
theorem name_len {a : Str} (h : nameB (.str a) = true) : a.length ≤ 8 := (name_iff.mp h).2.1
theorem ok_names (T : Txt K mg) (c__law_draw : Cal P w K mg base 1 "_law_draw" (spW K tabs (liftU wLot))) (A : At K mg "_law_names" s__law_names ["pool", "many"]) : Cal P w K mg base 2 "_law_names" (spW K tabs (liftU wNames)) := by
  refine A.of fun f fd F => fx_fnU F sc__law_names (fun o ds Q ⟨n, m, h, _⟩ => by rw [h]; rfl) fun cdv A outer s H E TT P0 σ0 hcd hr => ⟨_, (gss_cons (gs_setE (i := 2) sc__law_names.nd rfl (Or.inr rfl) (GE.of_pure gp_str))
      (gss_cons (gs_setE (i := 3) sc__law_names.nd rfl (Or.inr rfl) (ge_lstOD gd_nil))
      (gss_cons (gs_for PassesOwn.never rfl (gi_r1 rfl T.z_range (GD.ga (gd_cons (GE.of_pure (gp_var (pv 1))) gd_nil))) (gg_name (pg_name (i := 4) sc__law_names.nd rfl (Or.inl rfl)) rfl)
      (gss_cons (gs_setE (i := 5) sc__law_names.nd rfl (Or.inl rfl) (ge_join (GE.of_pure gp_str) (ge_lcR (own := [("j", 6)]) (t := .name 6) rfl sc__law_names.nd (gi_r1 rfl T.z_range (GD.ga (gd_cons (ge_op opx_add (GE.of_pure gp_int) (ge_callU c__law_draw hr (by decide) rfl rfl rfl mono__law_draw (pv 0) (gd_cons (GE.of_pure gp_int) gd_nil))) gd_nil))) (blkOk_by (own := [("j", 6)]) (N := ["pool", "many", "letters", "names", "k", "word", "j", "one", "letter"]) (sc := defScope s__law_names) (by decide +kernel)) (fun _ _ _ _ _ => (pg_name (i := 6) sc__law_names.nd rfl (Or.inl rfl))) (fun _ _ _ _ _ => (ge_ix ixx (GE.of_pure (gp_var (pv 2))) (ge_callU c__law_draw hr (by decide) rfl rfl rfl mono__law_draw (pv 0) (gd_cons (GE.of_pure gp_int) gd_nil)) (fun _ _ => rfl))) (by decide) (mem1 rfl) (mem1 (Nat.le_of_ble_eq_true rfl)))))
      (gss_cut (gs_if (GW.gt (gw_and (gt_cmpV (opx_ne hr.units) (pv 3) (ge_lstD gd_nil) (nomark _)) (gw_and1 (gt_cmp (opx_eq hr.units) (ge_callU c__law_draw hr (by decide) rfl rfl rfl mono__law_draw (pv 0) (gd_cons (GE.of_pure gp_int) gd_nil)) (GE.of_pure gp_int) (nomark _)))))
      (gss_one (gs_setE (i := 5) sc__law_names.nd rfl (Or.inl rfl) (ge_sl (ge_op opx_add (ge_ixV ixx (pv 3) (ge_un unx_neg (GE.of_pure gp_int)) (fun _ _ => rfl)) (GE.of_pure (gp_var (pv 5)))) go_none (go_some (GE.of_pure gp_int)))))
      gss_nil)
      (gss_one (gs_append (pv 3) (gd_cons (ge_ix ixx (ge_frz (ge_lcR1 (own := [("one", 7)]) (t := .name 7) rfl sc__law_names.nd (gi_list (ge_op opx_add (ge_lstD (gd_cons (GE.of_pure (gp_var (pv 5))) gd_nil)) (ge_frz (ge_lcR (own := [("letter", 8)]) (t := .name 8) rfl sc__law_names.nd (gi_str (GE.of_pure (gp_var (pv 2)))) (blkOk_by (own := [("letter", 8)]) (N := ["pool", "many", "letters", "names", "k", "word", "j", "one", "letter"]) (sc := defScope s__law_names) (by decide +kernel)) (fun _ _ _ _ _ => (pg_name (i := 8) sc__law_names.nd rfl (Or.inl rfl))) (fun _ _ _ _ _ => (GE.of_pure (gp_var (pv 8)))) (by decide) (mem1 rfl) (mem1 (Nat.le_of_ble_eq_true rfl)))))) (blkOk_by (own := [("one", 7)]) (N := ["pool", "many", "letters", "names", "k", "word", "j", "one", "letter"]) (sc := defScope s__law_names) (by decide +kernel)) (fun _ _ _ _ _ => (pg_name (i := 7) sc__law_names.nd rfl (Or.inl rfl))) (fun _ _ _ _ _ => (gt_cmpP (opx_nin hr.u65) (gp_var (pv 7)) (gp_var (pv 3)) (by rfl))) (fun _ _ _ _ _ => (GE.of_pure (gp_var (pv 7)))) (by decide) (mem1 rfl) (mem1 (Nat.le_of_ble_eq_true rfl)))) (GE.of_pure gp_int) (fun _ _ => rfl)) gd_nil))))))
      (gss_one (gs_ret (ge_move (pv 3))))))), fun o ds Q ⟨n, m, h, u, hn, m0, m9, q⟩ => ?_⟩
  subst h
  refine x_start (e := [some (.own o), some (.f (.int m)), none, none, none, none, none, none, none]) rfl ?_
  walk_at "x"
  refine ⟨fun i e => ∃ (o' : O) (xs : List Str) (x4 x5 x6 x7 x8 : Option Sl), Un o' (n + 10 * i) ∧ xs.length = i ∧ (∀ x ∈ xs, nameB (.str x) = true) ∧ xs.Nodup ∧ e = [some (.own o'), some (.f (.int m)), some (.f (.str "abcdefghijklmnopqrstuvwxyz")), some (.own (.lst (xs.map D.str))), x4, x5, x6, x7, x8], ⟨o, [], _, _, _, _, _, u, rfl, nofun, List.nodup_nil, rfl⟩, ?_, ?_⟩
  · rintro i d e hd ⟨o1, xs, x4, x5, x6, x7, x8, u1, hlen, hx, nd, rfl⟩
    obtain ⟨hi, rfl⟩ := rng_at hd
    walk_at "x"
    intro k1 o2 k10 k11 u2
    walk_at "x"
    rw [List.length_map, List.length_range]
    refine ⟨by omega, fun j acc e => ∃ (o3 : O) (ls : List Str) (y6 : Option Sl), Un o3 (n + 10 * i + 1 + j) ∧ acc = ls.map D.str ∧ ls.length = j ∧ (∀ x ∈ ls, low x ∧ x.length = 1) ∧ e = [some (.own o3), some (.f (.int m)), some (.f (.str "abcdefghijklmnopqrstuvwxyz")), some (.own (.lst (xs.map D.str))), some (.f (.int (i : Nat))), x5, y6, x7, x8], ⟨o2, [], x6, u2, rfl, rfl, nofun, rfl⟩, ?_, ?_⟩
    · rintro j d acc e hd ⟨o3, ls, y6, u3, rfl, hll, hlo, rfl⟩
      obtain ⟨hj, rfl⟩ := rng_at hd
      refine ⟨_, rfl, ?_⟩
      dsimp only [List.map_cons, List.map_nil, wipeE, setE, Tgt.js, List.set_cons_zero, List.set_cons_succ]
      walk_at "x"
      intro c o4 c0 c1 u4
      walk_at "x"
      obtain ⟨ch, e1, e2⟩ := atI_at (ds := (Str.ofString "abcdefghijklmnopqrstuvwxyz").cps.toList) c0 (by rw [show (Str.ofString "abcdefghijklmnopqrstuvwxyz").cps.toList.length = 26 by decide +kernel]; exact c1)
      have hch := (by decide +kernel : ∀ c ∈ (Str.ofString "abcdefghijklmnopqrstuvwxyz").cps.toList, 97 ≤ c ∧ c ≤ 122) ch (List.mem_of_getElem? e2)
      refine x_ixS (by decide +kernel) e1 ?_
      refine ⟨_, rfl, o4, ls ++ [⟨#[ch]⟩], _, u4.mono (by omega), by rw [List.map_append]; rfl, by rw [List.length_append, hll]; rfl, fun x hx => ?_, rfl⟩
      rcases List.mem_append.mp hx with h | h
      · exact hlo x h
      · rw [List.mem_singleton.mp h]
        exact ⟨fun c hc => by
          have hc : c ∈ [ch] := hc
          rw [List.mem_singleton.mp hc]
          exact hch, rfl⟩
    rintro acc e ⟨o3, ls, y6, u3, rfl, hll, hlo, rfl⟩
    obtain ⟨wl, wn⟩ := low_join hlo
    have hsum : (ls.map (·.length)).sum + ls.length * (Str.ofString "").length ≤ 16777216 := by
      rw [sum_ones fun x hx => (hlo x hx).2, show (Str.ofString "").length = 0 by decide +kernel]
      omega
    refine ⟨_, ls, .inl rfl, rfl, hsum, ?_⟩
    generalize Txt.join "" ls = word at wl wn
    walk_at "x"
    have sxs : ∀ x ∈ xs, PyData.strOk x = true := fun x h => name_cp (hx x h)
    have wname : nameB (.str word) = true := name_iff.mpr ⟨by omega, by omega, wl⟩
    refine x_cut (fun e => ∃ (w2 : Str) (o4 : O), Un o4 (n + 10 * i + 10) ∧ nameB (.str w2) = true ∧ e = [some (.own o4), some (.f (.int m)), some (.f (.str "abcdefghijklmnopqrstuvwxyz")), some (.own (.lst (xs.map D.str))), some (.f (.int (i : Nat))), some (.f (.str w2)), none, x7, x8]) ?_ ?_
    · walk_at "x"
      refine ⟨_, _, _, rfl, rfl, rfl, x_neD (okPy_strs sxs) (by decide +kernel) ?_⟩
      walk_at "x"
      rw [eqB_nil]
      cases hxs : xs with
      | nil =>
        rw [List.isEmpty_nil, if_pos rfl, if_neg Bool.false_ne_true]
        exact ⟨word, o3, u3.mono (by omega), wname, rfl⟩
      | cons x0 xr =>
        rw [List.isEmpty_cons, if_neg Bool.false_ne_true, ← hxs]
        walk_at "x"
        intro z1 o5 z10 z11 u5
        walk_at "x"
        refine x_iteD (fun hz => ?_) (fun hz => ?_)
        · walk_at "x"
          obtain ⟨z, e1, e2⟩ := at_last (ds := xs.map D.str) (by rw [hxs, List.length_map]; exact Nat.succ_le_succ (Nat.zero_le _))
          obtain ⟨z, hz2, rfl⟩ := List.mem_map.mp e2
          have nz := hx z hz2
          obtain ⟨z1, z8, zl⟩ := name_iff.mp nz
          obtain ⟨w1, w8, _⟩ := name_iff.mp wname
          refine ⟨_, _, _, rfl, rfl, rfl, x_ixL e1 ?_⟩
          walk_at "x"
          have el : (z ++ word).length = z.length + word.length := by rw [TL.len_tl, TL.tl_append, List.length_append, ← TL.len_tl, ← TL.len_tl]
          have sm : z.length + word.length ≤ sizeLine := Nat.le_trans (show z.length + word.length ≤ 16 by omega) (Nat.le_of_ble_eq_true rfl)
          refine x_addS sm ?_
          walk_at "x"
          refine ⟨by rw [el]; exact sm, nofun, Nat.le_of_ble_eq_true rfl, _, o5, u5.mono (by omega), name_cut (by omega) (low_app zl wl), rfl⟩
        · walk_at "x"
          exact ⟨word, o5, u5.mono (by omega), wname, rfl⟩
    rintro e ⟨w2, o4, u4, hw2, rfl⟩
    walk_at "x"
    rw [signs_lets]
    refine ⟨fun j acc e => acc = (lets.take j).map D.str ∧ ∃ z8, e = [some (.own o4), some (.f (.int m)), some (.f (.str "abcdefghijklmnopqrstuvwxyz")), some (.own (.lst (xs.map D.str))), some (.f (.int (i : Nat))), some (.f (.str w2)), none, x7, z8], ⟨rfl, _, rfl⟩, ?_, ?_⟩
    · rintro j d acc e hd ⟨rfl, z8, rfl⟩
      obtain ⟨y, hy, rfl⟩ := at_map hd
      refine ⟨_, rfl, ?_⟩
      dsimp only [List.map_cons, List.map_nil, wipeE, setE, Tgt.js, List.set_cons_zero, List.set_cons_succ]
      walk_at "x"
      exact ⟨by rw [take_snoc hy, List.map_append]; rfl, _, rfl⟩
    rintro acc e ⟨rfl, z8, rfl⟩
    rw [List.length_map, List.take_length]
    walk_at "x"
    refine ⟨fun j acc e => acc = (((w2 :: lets).take j).filter fun y => !xs.contains y).map D.str ∧ ∃ z7, e = [some (.own o4), some (.f (.int m)), some (.f (.str "abcdefghijklmnopqrstuvwxyz")), some (.own (.lst (xs.map D.str))), some (.f (.int (i : Nat))), some (.f (.str w2)), none, z7, none], ⟨rfl, _, rfl⟩, ?_, ?_⟩
    · rintro j d acc e hd ⟨rfl, z7, rfl⟩
      have hd : ((w2 :: lets).map D.str)[j]? = some d := hd
      obtain ⟨y, hy, rfl⟩ := at_map hd
      refine ⟨_, rfl, ?_⟩
      dsimp only [List.map_cons, List.map_nil, wipeE, setE, Tgt.js, List.set_cons_zero, List.set_cons_succ]
      walk_at "x"
      have oky : PyData.strOk y = true := name_cp (by
        rcases List.mem_cons.mp (List.mem_of_getElem? hy) with rfl | h
        · exact hw2
        · exact lets_name y h)
      refine ⟨okPy_str oky, okPy_strs sxs, ?_⟩
      have e : (if true = true then !(D.pyL (xs.map D.str)).any fun z => z.eqv (D.str y).py else (D.pyL (xs.map D.str)).any fun z => z.eqv (D.str y).py) = !xs.contains y := by
        rw [if_pos rfl, ← mem_strs]
        rfl
      rw [e]
      refine ⟨_, rfl, ?_⟩
      cases hc : xs.contains y with
      | true =>
        rw [Bool.not_true, if_neg Bool.false_ne_true]
        exact ⟨by rw [take_snoc hy, List.filter_append, List.filter_cons_of_neg (by rw [hc]; decide), List.filter_nil, List.append_nil], _, rfl⟩
      | false =>
        rw [Bool.not_false, if_pos rfl]
        walk_at "x"
        exact ⟨by rw [take_snoc hy, List.filter_append, List.filter_cons_of_pos (by rw [hc]; rfl), List.filter_nil, List.map_append]; rfl, _, rfl⟩
    rintro acc e ⟨rfl, z7, rfl⟩
    rw [show ([D.str w2] ++ lets.map D.str).length = (w2 :: lets).length by rw [List.length_append, List.length_map, List.length_cons]; exact Nat.add_comm 1 _, List.take_length]
    obtain ⟨y, r, hp, yn, yb⟩ := pick (xs := xs) (by omega) w2 hw2
    rw [hp]
    walk_at "x"
    refine x_ixL (d := .str y) (L2.atI_nat (xs := (y :: r).map D.str) (j := 0) rfl) ?_
    walk_at "x"
    refine x_appE rfl (by rw [List.length_map]; omega) ?_
    walk_at "x"
    refine ⟨o4, xs ++ [y], _, _, _, _, _, u4.mono (by omega), by rw [List.length_append, hlen]; rfl, fun x h => ?_, List.nodup_append.mpr ⟨nd, List.pairwise_singleton _ _, fun a ha b hb e => ?_⟩, by rw [List.map_append]; rfl⟩
    · rcases List.mem_append.mp h with h | h
      · exact hx x h
      · rw [List.mem_singleton.mp h]
        exact yb
    · rw [List.mem_singleton.mp hb] at e
      exact yn (e ▸ ha)
  · rintro e ⟨o1, xs, x4, x5, x6, x7, x8, u1, hlen, hx, nd, rfl⟩
    rw [List.length_map, List.length_range] at hlen u1
    walk_at "x"
    refine ⟨_, _, rfl, rfl, nofun, Nat.le_of_ble_eq_true rfl, o1, rfl, ?_⟩
    exact q xs o1 (by omega) hx nd (u1.mono (by omega))

end
end K75

namespace K75
open PySem PySem.Spec PyProof.Rows L2 Lk Evl Fx



local macro_rules | `(tactic| walk_at "sz") => `(tactic| first
  | exact Nat.le_of_ble_eq_true rfl
  | assumption
  | exact small_sz (Nat.le_of_ble_eq_true rfl)
  | (simp only [List.length_cons, List.length_nil, List.length_map, List.length_append]; first | omega | exact small_sz (by omega)))
local macro_rules | `(tactic| walk_at "x1") => `(tactic| first
  | with_reducible refine x_seq ?_
  | (with_reducible show wVar _ _ _); first | refine x_varF rfl ?_ | refine x_varO rfl ?_ | refine x_varV rfl ?_
  | with_reducible refine x_c ?_
  | with_reducible refine x_exf ?_
  | with_reducible refine x_excd ?_
  | (with_reducible show ∃ d1, Sl.cd (Sl.vw _) = some d1 ∧ _); refine x_excV rfl ?_
  | (with_reducible show ∃ d1, Sl.cd (Sl.own _) = some d1 ∧ _); refine x_excO rfl ?_
  | with_reducible refine x_binP ?_
  | with_reducible refine x_bin ?_
  | with_reducible refine x_adC ?_
  | with_reducible refine x_adN ?_
  | with_reducible refine x_lst ?_
  | with_reducible refine x_tup ?_
  | with_reducible refine x_lstO ?_
  | (with_reducible refine x_and (p := _ ≤ sizeLine) ?h ?_); (case h => walk_at "sz")
  | with_reducible refine x_callF ?_
  | with_reducible refine x_callL ?_
  | with_reducible refine x_listO ?_
  | (with_reducible show wCallU _ _ _ _ _); refine x_callU rfl ?_
  | with_reducible refine x_callV ?_
  | with_reducible refine x_join ?_
  | with_reducible refine x_waD ?_
  | with_reducible refine x_lc ?_
  | with_reducible refine x_lc2 ?_
  | with_reducible refine x_lenSets ?_
  | (with_reducible show wApp _ _ _ _); refine x_app rfl ?_
  | (with_reducible show wBinV _ _ _ _ _); refine x_binV rfl ?_
  | (with_reducible show wPopD _ _ _ _); refine x_popD rfl ?_
  | (with_reducible show wCatV _ _ _ _); refine x_catV rfl ?_
  | with_reducible refine x_slN2 ?_
  | with_reducible refine x_sortedSets ?_
  | with_reducible refine x_tplL ?_
  | with_reducible refine x_tplT ?_
  | with_reducible refine x_isB ?_
  | with_reducible refine x_r1 ?_
  | with_reducible refine x_r2 ?_
  | (with_reducible refine x_r1e ?h0 ?h1 ?_); (case h0 => omega); (case h1 => omega)
  | with_reducible refine x_iL ?_
  | with_reducible refine x_iT ?_
  | with_reducible refine x_iS ?_
  | with_reducible refine x_iE ?_
  | with_reducible refine x_iEe ?_
  | with_reducible refine x_yes ?_
  | with_reducible refine x_for ?_
  | (with_reducible show wLot _ [D.int _] _); (refine' x_lot (by assumption) ?h1 ?h2 ?h3 ?_); (case h1 => omega); (case h2 => first | decide | omega); (case h3 => first | decide | omega)
  | (with_reducible show ∃ o, _ = some (some (Sl.own o)) ∧ _); refine x_exO rfl ?_
  | with_reducible refine x_exo ?_
  | with_reducible refine x_ret ?_
  | with_reducible refine x_set ?_
  | with_reducible refine x_fin ?_
  | with_reducible refine x_fino ?_
  | (with_reducible refine x_and (p := _ < List.length _) ?h ?_); (case h => exact Nat.le_of_ble_eq_true rfl); (try dsimp only [List.set_cons_succ, List.set_cons_zero])
  | with_reducible refine x_next ?_
  | with_reducible refine x_retN ?_
  | with_reducible refine x_drop ?_
  | with_reducible refine x_asg ?_
  | (with_reducible refine x_gtp ?h ?_); (case h => rfl)
  | with_reducible refine x_gcons ?_
  | with_reducible refine x_gnil ?_
  | (with_reducible refine x_gn ?h ?_); (case h => exact Nat.le_of_ble_eq_true rfl); (try dsimp only [List.set_cons_succ, List.set_cons_zero])
  | with_reducible refine x_ifS ?_
  | with_reducible refine x_if ?_
  | with_reducible refine x_itT ?_
  | with_reducible refine x_itF ?_
  | with_reducible refine x_iteN ?_
  | with_reducible refine x_tru ?_
  | with_reducible refine x_tB ?_
  | with_reducible refine x_dtB ?_
  | with_reducible refine x_dtN ?_
  | with_reducible refine x_exb ?_
  | with_reducible refine x_exdb ?_
  | with_reducible refine x_tand ?_
  | with_reducible refine x_tor ?_
  | with_reducible refine x_tnot ?_
  | with_reducible refine x_and2 ?_
  | with_reducible refine x_or2 ?_
  | with_reducible refine x_not2 ?_
  | with_reducible refine x_chain ?_
  | with_reducible refine x_sub ?_
  | with_reducible refine x_addI ?_
  | (with_reducible refine x_addS ?h ?_); (case h => walk_at "sz")
  | (with_reducible refine x_addL ?h ?_); (case h => walk_at "sz")
  | (with_reducible refine x_addT ?h ?_); (case h => walk_at "sz")
  | with_reducible refine x_lt ?_
  | with_reducible refine x_le ?_
  | with_reducible refine x_gt ?_
  | with_reducible refine x_ge ?_
  | with_reducible refine x_ltS ?_
  | with_reducible refine x_eqI ?_
  | with_reducible refine x_neI ?_
  | with_reducible refine x_allSg ?_
  | with_reducible refine x_m0 ?_
  | with_reducible refine x_lstT ?_
  | with_reducible refine x_lstL ?_
  | with_reducible refine x_strB ?_
  | with_reducible refine x_strN ?_
  | with_reducible refine x_strS ?_
  | with_reducible refine x_isT ?_
  | with_reducible refine x_isI ?_
  | with_reducible refine x_neg ?_
  | with_reducible refine x_un ?_
  | (with_reducible refine x_pow ?h ?_); (case h => exact ⟨by decide, by decide +kernel⟩)
  | (with_reducible refine x_mod ?h ?_); (case h => first | decide | omega)
  | (with_reducible refine x_mul ?h ?_); (case h => exact mul_ok (by first | decide | omega) (by first | decide | omega))
  | (with_reducible refine x_div ?h ?_); (case h => exact div_ok (by first | decide | omega) (by first | decide | omega))
  | with_reducible refine x_ipA ?_
  | (with_reducible show wAugL _ _ _ _ _ _); refine x_augL rfl ?_
  | (with_reducible show wAug _ _ _ _ _); refine x_aug rfl ?_
  | (with_reducible show ∃ k' ds d, Sl.f (D.int _) = Sl.f (D.int k') ∧ _); refine x_augL1 rfl (by decide) rfl ?_
  | (with_reducible show ∃ k' j ds, Sl.f (D.int _) = Sl.f (D.int k') ∧ _ = some (some (Sl.own (O.lst ds))) ∧ ixN _ k' = some j ∧ _); refine x_setL1 rfl rfl ?_; (try dsimp only [List.set_cons_succ, List.set_cons_zero])
  | (with_reducible show ∃ ds j, _ = some (some (Sl.own (O.lst ds))) ∧ ixN _ _ = some j ∧ _); refine x_augL2 rfl rfl ?_; (try dsimp only [List.set_cons_succ, List.set_cons_zero])
  | (with_reducible show gSetL _ _ _ _ _); refine x_setL rfl ?_
  | (with_reducible show dIx (D.lst _) (D.int _) _); refine x_ixL rfl ?_
  | (with_reducible show dIx (D.tup _) (D.int _) _); refine x_ixT rfl ?_
  | with_reducible refine x_cb ?_
  | (with_reducible show wCB1 _ _ _ _); refine x_cb1 rfl rfl ?_
  | with_reducible refine x_fm ?_
  | with_reducible refine x_exl ?_
  | with_reducible refine x_ext ?_
  | with_reducible refine x_exs ?_
  | with_reducible refine x_exi ?_
  | with_reducible refine x_sl ?_
  | with_reducible refine x_slN ?_
  | with_reducible refine x_slS ?_
  | with_reducible refine x_frz ?_
  | with_reducible refine x_frL ?_
  | with_reducible refine x_revT ?_
  | with_reducible refine x_revL ?_
  | with_reducible refine x_splitO ?_
  | (with_reducible show wSlO _ _ _ _ _); refine x_slO rfl ?_
  | (with_reducible show ∃ ds2, _ = some (some (Sl.own (O.lst ds2))) ∧ _); refine x_exOl rfl ?_
  | with_reducible refine x_dictO ?_
  | with_reducible refine x_psC ?_
  | with_reducible refine x_psN ?_
  | with_reducible refine x_get ?_
  | (with_reducible show gSetSl _ _ _ _ _ _); refine x_setSl rfl ?_
  | with_reducible refine x_split ?_
  | with_reducible refine x_isN1 ?_
  | with_reducible refine x_isN0 rfl ?_
  | with_reducible refine x_iZ ?_
  | with_reducible refine x_zT ?_
  | with_reducible refine x_zL ?_
  | with_reducible refine x_stp ?_
  | with_reducible refine x_js ?_
  | with_reducible refine x_jsC ?_
  | with_reducible refine x_jsN ?_
  | with_reducible refine x_fmt ?_
  | with_reducible refine x_callFX ?_
  | (with_reducible refine x_glp ?h ?_); (case h => rfl)
  | with_reducible refine x_raiseR ?_
  | with_reducible refine x_row ?_
  | with_reducible refine x_lenL ?_
  | with_reducible refine x_lenT ?_
  | with_reducible refine x_lenD ?_
  | (with_reducible refine x_lenS ?h ?_); (case h => walk_at "sz")
  | with_reducible refine x_max ?_
  | with_reducible refine x_min ?_
  | with_reducible refine x_intI ?_
  | with_reducible refine x_intB ?_
  | (with_reducible refine x_isInt ?h ?_); (case h => first | assumption | exact part_ty (by assumption) | (intro _ hh; cases hh; done))
  | (with_reducible refine x_isBl ?h ?_); (case h => first | assumption | exact part_ty (by assumption) | (intro _ hh; cases hh; done))
  | (with_reducible refine x_isStr ?h ?_); (case h => first | assumption | exact part_ty (by assumption) | (intro _ hh; cases hh; done))
  | (with_reducible refine x_isTup ?h ?_); (case h => first | assumption | exact part_ty (by assumption) | (intro _ hh; cases hh; done))
  | (with_reducible refine x_isLst ?h ?_); (case h => first | assumption | exact part_ty (by assumption) | (intro _ hh; cases hh; done))
  | (with_reducible refine x_isDic ?h ?_); (case h => first | assumption | exact part_ty (by assumption) | (intro _ hh; cases hh; done))
  | (with_reducible refine x_itTe ?e ?_); (case e => rfl)
  | (with_reducible refine x_itFe ?e ?_); (case e => rfl)
  | with_reducible refine x_dnewO ?_
  | with_reducible refine x_dput ?_
  | with_reducible refine x_dix ?_
  | with_reducible refine x_sortedD ?_
  | with_reducible refine x_star ?_
  | with_reducible refine x_starT ?_
  | with_reducible refine x_frzD ?_
  | with_reducible refine x_sw ?_
  | with_reducible refine x_cnt ?_
  | with_reducible refine x_waC ?_
  | with_reducible refine x_waN ?_
  | with_reducible refine x_lenDD ?_
  | with_reducible refine x_allX ?_
  | (with_reducible show wFz _ _ _ _); refine x_fz rfl ?_
  | (with_reducible show wFzS _ _ _ _); refine x_fzS rfl ?_
  | (with_reducible show wFzO _ _ _ _); refine x_fzO rfl ?_
  | (with_reducible show wiK _ _ _); refine x_iK rfl ?_
  | (with_reducible show wiIt _ _ _); refine x_iIt rfl ?_
  | with_reducible refine x_iE1 ?_
  | with_reducible refine x_forR ?_
  | (with_reducible show wDIxV _ _ _ _); refine x_dixV rfl (cd_dicO _) ?_
  | (with_reducible show wDPop _ _ _ _); refine x_dpop rfl ?_
  | with_reducible refine x_pickO ?_
  | (with_reducible show wExt _ _ _ _); refine x_extO rfl ?_
  | with_reducible refine x_sortedR ?_
  | with_reducible refine x_sortedL ?_
  | with_reducible refine x_ixSt ?_
  | (with_reducible show wiVal _ _ _); refine x_iVal rfl ?_
  | with_reducible refine x_dictP ?_
  | with_reducible refine x_dictZip ?_
  | with_reducible refine x_revS ?_
  | with_reducible refine x_par ?_
  | (with_reducible show wIsiV _ _ _ _ _); refine x_isiV rfl ?_
  | ((with_reducible show _ ∧ _); refine And.intro (Nat.le_of_ble_eq_true rfl) ?_))
local macro_rules | `(tactic| walk_at "x") => `(tactic| repeat (walk_at "x1"))

section
variable {P : Program} {w : World} {K : PySem.W.Frag} {mg : Str → Option Value} {base : Heap} {tabs : List Addr}
/-! ### trusts, rows -/
structure Ti where
  (a b : Str) (s u : Int)
def Ti.d (t : Ti) : D := .tup [.str t.a, .str t.b, .int t.s, .int t.u]
structure Ti.Ok (t : Ti) : Prop where
  a : nameB (.str t.a) = true
  b : nameB (.str t.b) = true
  ab : t.a ≠ t.b
  s0 : 0 ≤ t.s
  su : t.s < t.u
  u1 : t.u ≤ 1000000
structure Wi where
  (a : Str) (p : D) (s u : Int)
def Wi.d (x : Wi) : D := .tup [.str x.a, x.p, .int x.s, .int x.u]
structure Wi.Ok (x : Wi) : Prop where
  a : nameB (.str x.a) = true
  p : x.p ∈ allDeeds
  s0 : 0 ≤ x.s
  su : x.s < x.u
  u1 : x.u ≤ 1000000
def trustD (oo : Str) (ts : List Ti) (xs : List Wi) : D := .tup [.str oo, .tup (ts.map Ti.d), .tup (xs.map Wi.d)]
structure TrOk (oo : Str) (ts : List Ti) (xs : List Wi) : Prop where
  hoo : nameB (.str oo) = true
  hts : ∀ t ∈ ts, t.Ok
  tl : ts.length ≤ 20
  hxs : ∀ x ∈ xs, x.Ok
  x1 : 1 ≤ xs.length
  x6 : xs.length ≤ 6
  nd : (xs.map (·.a)).Nodup
  no : ∀ x ∈ xs, x.a ≠ oo
/-- a row of the right kinds -/
structure Rw where
  (g h : Str) (p : D) (s u k : Int)
def Rw.d (r : Rw) : D := .tup [.str r.g, .str r.h, r.p, .int r.s, .int r.u, .int r.k]
def deeds4 : List D := [.tup [.str "look"], .tup [.str "set"], .tup [.str "look", .str "set"], .tup [.str "set", .str "look"]]
structure Rw.W (r : Rw) : Prop where
  g : PyData.strOk r.g = true
  gl : r.g.length ≤ 100
  h : PyData.strOk r.h = true
  hl : r.h.length ≤ 100
  p : r.p ∈ deeds4
def deedsL : D → List D
  | .tup ds => ds
  | _ => []
theorem deeds4_tup : ∀ {d : D}, d ∈ deeds4 → d = .tup (deedsL d) ∧ (∀ x ∈ deedsL d, okPy x = true) ∧ okPy (.tup (deedsL d)) = true ∧ (deedsL d).length ≤ 2 ∧ szB d = true := by
  intro d h
  rcases List.mem_cons.mp h with rfl | h
  · exact ⟨rfl, (by decide +kernel : ∀ x ∈ [D.str "look"], okPy x = true), (by decide +kernel : okPy (.tup [.str "look"]) = true), by decide, rfl⟩
  rcases List.mem_cons.mp h with rfl | h
  · exact ⟨rfl, (by decide +kernel : ∀ x ∈ [D.str "set"], okPy x = true), (by decide +kernel : okPy (.tup [.str "set"]) = true), by decide, rfl⟩
  rcases List.mem_cons.mp h with rfl | h
  · exact ⟨rfl, (by decide +kernel : ∀ x ∈ [D.str "look", D.str "set"], okPy x = true), (by decide +kernel : okPy (.tup [.str "look", .str "set"]) = true), by decide, rfl⟩
  obtain rfl := List.mem_singleton.mp h
  exact ⟨rfl, (by decide +kernel : ∀ x ∈ [D.str "set", D.str "look"], okPy x = true), (by decide +kernel : okPy (.tup [.str "set", .str "look"]) = true), by decide, rfl⟩
theorem deeds_four {d : D} (h : d ∈ allDeeds) : d ∈ deeds4 := by
  rcases List.mem_cons.mp h with rfl | h
  · exact List.mem_cons_self ..
  rcases List.mem_cons.mp h with rfl | h
  · exact List.mem_cons_of_mem _ (List.mem_cons_self ..)
  rw [List.mem_singleton.mp h]
  exact List.mem_cons_of_mem _ (List.mem_cons_of_mem _ (List.mem_cons_self ..))
theorem x_any {bs : List Bool} {Q : D → Prop} (h : Q (.bl (bs.any id))) : cAny [.lst (bs.map D.bl)] Q := ⟨bs, rfl, h⟩
def wMade : WFn := fun ds Q => ∃ r : Rw, ds = [r.d] ∧ Q (.f (.tup [.int 0, .str "room", r.p, .str r.g, .str r.h, .int r.s, .int r.u, .int r.k, .non]))
theorem mono__made_leave : MonoF wMade := fun ds Q Q' i ⟨r, e, q⟩ => ⟨r, e, i _ q⟩
theorem ok_made (T : Txt K mg) (A : At K mg "_made_leave" s__made_leave ["row"]) : Cal P w K mg base 1 "_made_leave" (spW K tabs (liftF wMade)) := by
  refine A.of fun f fd F => fx_fnF F sc__made_leave (fun ds Q ⟨_, h, _⟩ => by rw [h]; rfl) fun cdv A outer s H E TT P0 σ0 hcd hr => ⟨_, (gss_cons (gs_asg (GE.of_pure (gp_var (pv 0))) (gg_tup (n := 6) rfl (ggs_cons (pg_name (i := 1) sc__made_leave.nd rfl (Or.inl rfl)) rfl (ggs_cons (pg_name (i := 2) sc__made_leave.nd rfl (Or.inl rfl)) rfl (ggs_cons (pg_name (i := 3) sc__made_leave.nd rfl (Or.inl rfl)) rfl (ggs_cons (pg_name (i := 4) sc__made_leave.nd rfl (Or.inl rfl)) rfl (ggs_cons (pg_name (i := 5) sc__made_leave.nd rfl (Or.inl rfl)) rfl (ggs_cons (pg_name (i := 6) sc__made_leave.nd rfl (Or.inl rfl)) rfl ggs_nil))))))))
      (gss_one (gs_ret (ge_tupD (gd_cons (GE.of_pure gp_int) (gd_cons (GE.of_pure (gp_k T.g_ROOM_NAME rfl)) (gd_cons (GE.of_pure (gp_var (pv 3))) (gd_cons (GE.of_pure (gp_var (pv 1))) (gd_cons (GE.of_pure (gp_var (pv 2))) (gd_cons (GE.of_pure (gp_var (pv 4))) (gd_cons (GE.of_pure (gp_var (pv 5))) (gd_cons (GE.of_pure (gp_var (pv 6))) (gd_cons (GE.of_pure gp_non) gd_nil))))))))))))), fun ds Q ⟨r, e, q⟩ => ?_⟩
  subst e
  refine x_start (e := [some (.f (.tup [.str r.g, .str r.h, r.p, .int r.s, .int r.u, .int r.k])), none, none, none, none, none, none]) rfl ?_
  walk_at "x"
  exact q
/-- such as a leave is -/
def formB (r : Rw) : Bool := deedsB r.p && (nameB (.str r.g) && (nameB (.str r.h) && (!(r.g == r.h) && (spanB (.int r.s) (.int r.u) && betwB (.int r.k) 0 6))))
def wPlanned : WFn := fun ds Q => ∃ r : Rw, ds = [r.d] ∧ r.W ∧ Q (.f (.bl (formB r)))
theorem mono__is_planned : MonoF wPlanned := fun ds Q Q' i ⟨d, h, n, q⟩ => ⟨d, h, n, i _ q⟩
theorem part_str {a : Str} (h : PyData.strOk a = true) (l : a.length ≤ 100) : part (.str a) = true := (fit_str (n := 0) h).prt (by decide) (sz_small (Nat.le_trans l (by decide)))
theorem ok_planned (T : Txt K mg) (c_is_leave : Cal P w K mg base 5 "is_leave" (spW K tabs (liftF wLeave))) (c__made_leave : Cal P w K mg base 1 "_made_leave" (spW K tabs (liftF wMade))) (A : At K mg "_is_planned" s__is_planned ["thing"]) :
    Cal P w K mg base 6 "_is_planned" (spW K tabs (liftF wPlanned)) := by
  refine A.of fun f fd F => fx_fnF F sc__is_planned (fun ds Q ⟨d, h, _⟩ => by rw [h]; rfl) fun cdv A outer s H E TT P0 σ0 hcd hr => ⟨_, (gss_one (gs_ret (ge_and (ge_cbB cax_isi (by rfl) T.z_isinstance (by decide +kernel) (gd_cons (GE.of_pure (gp_var (pv 0))) (gd_cons (GE.of_pure (gp_ty (n := "tuple") (by rfl) T.z_tuple (by decide +kernel))) gd_nil))) (ge_and (ge_cmp (opx_eq hr.units) (ge_cbB1 cax_len (by rfl) T.z_len (by decide +kernel) (pv 0)) (GE.of_pure gp_int) (nomark _)) (ge_one (ge_callF c_is_leave hr (by decide) rfl rfl rfl mono_is_leave (gd_cons (ge_callF c__made_leave hr (by decide) rfl rfl rfl mono__made_leave (gd_cons (GE.of_pure (gp_var (pv 0))) gd_nil)) gd_nil))))))), fun ds Q ⟨r, h, hw, k⟩ => ?_⟩
  subst h
  refine x_start (e := [some (.f (.tup [.str r.g, .str r.h, r.p, .int r.s, .int r.u, .int r.k]))]) rfl ?_
  walk_at "x"
  refine ⟨r, rfl, ?_⟩
  walk_at "x"
  have d4 := deeds4_tup hw.p
  refine ⟨_, rfl, ⟨nofun, fun es e x hx => ?_⟩, ?_⟩
  · cases e
    simp only [List.mem_cons, List.not_mem_nil, or_false] at hx
    rcases hx with rfl | rfl | rfl | rfl | rfl | rfl | rfl | rfl | rfl
    · rfl
    · decide +kernel
    · unfold part
      rw [d4.2.2.2.2, show okPy r.p = true from by rw [d4.1]; exact d4.2.2.1]
      rfl
    · exact part_str hw.g hw.gl
    · exact part_str hw.h hw.hl
    · rfl
    · rfl
    · rfl
    · rfl
  have e : leaveB (.tup [.int 0, .str "room", r.p, .str r.g, .str r.h, .int r.s, .int r.u, .int r.k, .non]) = formB r := by
    show (gezB (.int 0) && (nameB (.str "room") && (deedsB r.p && (nameB (.str r.g) && (nameB (.str r.h) && (!eqB (.str r.g) (.str r.h) && (spanB (.int r.s) (.int r.u) && (betwB (.int r.k) 0 6 && underB .non (.int 0))))))))) = _
    rw [show nameB (.str "room") = true by decide +kernel, eq_strs, show underB .non (.int 0) = true from rfl, Bool.and_true]
    rfl
  rw [e]
  walk_at "x"
  exact k
/-! ### ties, givers, wishes -/
def hitT (r : Rw) (t : Ti) : Bool := (t.a == r.g) && (t.b == r.h)
def inT (r : Rw) (t : Ti) : Bool := decide (t.s ≤ r.s) && decide (r.u ≤ t.u)
def tieV (ts : List Ti) (r : Rw) : Bool := (ts.filter (hitT r)).any (inT r)
theorem pair_ok {x y : Str} (h : PyData.strOk x = true) (g : PyData.strOk y = true) : okPy (.tup [.str x, .str y]) = true := by
  simp [okPy, SeqAt.shaped, D.py, D.pyL, PyData.canLay0, PyData.canLayAll0, PyData.depth, PyData.depthAll, h, g]
theorem eqB_pair {x y o a : Str} : eqB (.tup [.str x, .str y]) (.tup [.str o, .str a]) = ((x == o) && (y == a)) := by
  show PyData.eqv (.tuple [.str x, .str y]) (.tuple [.str o, .str a]) = _
  simp [PyData.eqv, PyData.eqvAll]
def wHasTie : WFn := fun ds Q => ∃ (oo : Str) (ts : List Ti) (xs : List Wi) (r : Rw), ds = [trustD oo ts xs, r.d] ∧ TrOk oo ts xs ∧ r.W ∧ Q (.f (.bl (tieV ts r)))
theorem mono__has_tie : MonoF wHasTie := fun ds Q Q' i ⟨oo, ts, xs, r, h1, h2, h3, q⟩ => ⟨oo, ts, xs, r, h1, h2, h3, i _ q⟩
theorem ok_hastie (T : Txt K mg) (A : At K mg "_has_tie" s__has_tie ["trust", "row"]) : Cal P w K mg base 1 "_has_tie" (spW K tabs (liftF wHasTie)) := by
  refine A.of fun f fd F => fx_fnF F sc__has_tie (fun ds Q ⟨_, _, _, _, h, _⟩ => by rw [h]; rfl) fun cdv A outer s H E TT P0 σ0 hcd hr => ⟨_, (gss_cons (gs_asg (ge_sl (GE.of_pure (gp_var (pv 1))) (go_some (GE.of_pure gp_int)) (go_some (GE.of_pure gp_int))) (gg_tup (n := 2) rfl (ggs_cons (pg_name (i := 2) sc__has_tie.nd rfl (Or.inr rfl)) rfl (ggs_cons (pg_name (i := 3) sc__has_tie.nd rfl (Or.inr rfl)) rfl ggs_nil))))
      (gss_cons (gs_lcFR1 (i := 4) (own := [("tie", 5)]) (t := .name 5) rfl sc__has_tie.nd rfl rfl (sw_true rfl rfl rfl (by decide +kernel)) (gi_tup (GE.of_pure (gp_ix ixx (gp_var (pv 0)) (gp_k T.g_TIES rfl) (fun _ _ => rfl)))) (blkOk_by (own := [("tie", 5)]) (N := ["trust", "row", "since", "until", "ties", "tie"]) (sc := defScope s__has_tie) (by decide +kernel)) (fun _ _ _ _ _ => (pg_name (i := 5) sc__has_tie.nd rfl (Or.inl rfl))) (fun _ _ _ _ _ => (gt_cmp (opx_eq hr.units) (ge_sl (GE.of_pure (gp_var (pv 5))) go_none (go_some (GE.of_pure gp_int))) (ge_sl (GE.of_pure (gp_var (pv 1))) go_none (go_some (GE.of_pure gp_int))) (nomark _))) (fun _ _ _ _ _ => (GE.of_pure (gp_var (pv 5)))) (by decide) (mem1 rfl) (mem1 (Nat.le_of_ble_eq_true rfl)))
      (gss_one (gs_ret (ge_cbB (cax_any rfl) (by rfl) T.z_any (by decide +kernel) (gd_cons (ge_frz (ge_lcR (own := [("tie", 5)]) (t := .name 5) rfl sc__has_tie.nd (gi_list (GE.of_pure (gp_var (pv 4)))) (blkOk_by (own := [("tie", 5)]) (N := ["trust", "row", "since", "until", "ties", "tie"]) (sc := defScope s__has_tie) (by decide +kernel)) (fun _ _ _ _ _ => (pg_name (i := 5) sc__has_tie.nd rfl (Or.inl rfl))) (fun _ _ _ _ _ => (ge_and (GE.of_pure (gp_cmp opx_le (gp_ix ixx (gp_var (pv 5)) gp_int (fun _ _ => rfl)) (gp_var (pv 2)) (nomark _))) (ge_one (GE.of_pure (gp_cmp opx_le (gp_var (pv 3)) (gp_ix ixx (gp_var (pv 5)) gp_int (fun _ _ => rfl)) (nomark _)))))) (by decide) (mem1 rfl) (mem1 (Nat.le_of_ble_eq_true rfl)))) gd_nil)))))), fun ds Q ⟨oo, ts, xs, r, e, tr, hw, q⟩ => ?_⟩
  subst e
  have tl := tr.tl
  refine x_start (e := [some (.f (.tup [.str oo, .tup (ts.map Ti.d), .tup (xs.map Wi.d)])), some (.f (.tup [.str r.g, .str r.h, r.p, .int r.s, .int r.u, .int r.k])), none, none, none, none]) rfl ?_
  walk_at "x"
  refine x_slT (ds' := [.int r.s, .int r.u]) rfl ?_
  walk_at "x"
  refine ⟨by rw [List.length_map]; omega, fun i acc e => acc = ((ts.take i).filter (hitT r)).map Ti.d ∧ ∃ x5, e = [some (.f (.tup [.str oo, .tup (ts.map Ti.d), .tup (xs.map Wi.d)])), some (.f (.tup [.str r.g, .str r.h, r.p, .int r.s, .int r.u, .int r.k])), some (.f (.int r.s)), some (.f (.int r.u)), none, x5], ⟨rfl, _, rfl⟩, ?_, ?_⟩
  · rintro i d acc e hd ⟨rfl, x5, rfl⟩
    rw [List.getElem?_map] at hd
    obtain ⟨t, ht, rfl⟩ := Option.map_eq_some_iff.mp hd
    have okt := tr.hts t (List.mem_of_getElem? ht)
    refine ⟨_, rfl, ?_⟩
    dsimp only [List.map_cons, List.map_nil, wipeE, setE, Tgt.js, List.set_cons_zero, List.set_cons_succ]
    rw [show t.d = .tup [.str t.a, .str t.b, .int t.s, .int t.u] from rfl]
    walk_at "x"
    refine x_slT (ds' := [.str t.a, .str t.b]) rfl ?_
    walk_at "x"
    refine x_slT (ds' := [.str r.g, .str r.h]) rfl ?_
    walk_at "x"
    refine x_eqD (pair_ok (name_cp okt.a) (name_cp okt.b)) (pair_ok hw.g hw.h) ?_
    rw [eqB_pair]
    walk_at "x"
    have sn : (ts.take (i + 1)).filter (hitT r) = (ts.take i).filter (hitT r) ++ [t].filter (hitT r) := by rw [take_snoc ht, List.filter_append]
    cases hc : ((t.a == r.g) && (t.b == r.h)) with
    | true =>
      rw [if_pos rfl]
      rw [show [t].filter (hitT r) = [t] by rw [List.filter_cons, if_pos (show hitT r t = true from hc)]; rfl] at sn
      walk_at "x"
      exact ⟨by rw [sn, List.map_append]; rfl, _, rfl⟩
    | false =>
      rw [if_neg Bool.false_ne_true]
      rw [show [t].filter (hitT r) = [] by rw [List.filter_cons, if_neg (by rw [show hitT r t = false from hc]; decide)]; rfl, List.append_nil] at sn
      exact ⟨by rw [sn], _, rfl⟩
  rintro acc e ⟨rfl, x5, rfl⟩
  rw [List.length_map, List.take_length]
  have fl : (ts.filter (hitT r)).length ≤ 20 := Nat.le_trans (List.length_filter_le ..) tl
  unfold tieV at q
  generalize ts.filter (hitT r) = fs at fl q
  try dsimp only [List.map_cons, List.map_nil, wipeE, List.set_cons_zero, List.set_cons_succ]
  walk_at "x"
  refine ⟨by rw [List.length_map]; omega, fun i acc e => acc = ((fs.take i).map (inT r)).map D.bl ∧ ∃ x5, e = [some (.f (.tup [.str oo, .tup (ts.map Ti.d), .tup (xs.map Wi.d)])), some (.f (.tup [.str r.g, .str r.h, r.p, .int r.s, .int r.u, .int r.k])), some (.f (.int r.s)), some (.f (.int r.u)), some (.f (.lst (fs.map Ti.d))), x5], ⟨rfl, _, rfl⟩, ?_, ?_⟩
  · rintro i d acc e hd ⟨rfl, x5, rfl⟩
    rw [List.getElem?_map] at hd
    obtain ⟨t, ht, rfl⟩ := Option.map_eq_some_iff.mp hd
    refine ⟨_, rfl, ?_⟩
    dsimp only [List.map_cons, List.map_nil, wipeE, setE, Tgt.js, List.set_cons_zero, List.set_cons_succ]
    rw [show t.d = .tup [.str t.a, .str t.b, .int t.s, .int t.u] from rfl]
    walk_at "x"
    refine x_ite (fun h3 => ?_) (fun h3 => ?_)
    · walk_at "x"
      exact ⟨by rw [take_snoc ht, List.map_append, List.map_append]; show _ = _ ++ [D.bl (decide (t.s ≤ r.s) && decide (r.u ≤ t.u))]; rw [h3, Bool.true_and], _, rfl⟩
    · walk_at "x"
      exact ⟨by rw [take_snoc ht, List.map_append, List.map_append]; show _ = _ ++ [D.bl (decide (t.s ≤ r.s) && decide (r.u ≤ t.u))]; rw [h3, Bool.false_and], _, rfl⟩
  rintro acc e ⟨rfl, x5, rfl⟩
  rw [List.length_map, List.take_length]
  try dsimp only [List.map_cons, List.map_nil, wipeE, List.set_cons_zero, List.set_cons_succ]
  walk_at "x"
  refine x_any ?_
  rw [List.any_map, show (id ∘ inT r) = inT r from rfl]
  walk_at "x"
  exact q

end
end K75

namespace K75
open PySem PySem.Spec PyProof.Rows L2 Lk Evl Fx



local macro_rules | `(tactic| walk_at "sz") => `(tactic| first
  | exact Nat.le_of_ble_eq_true rfl
  | assumption
  | exact small_sz (Nat.le_of_ble_eq_true rfl)
  | (simp only [List.length_cons, List.length_nil, List.length_map, List.length_append]; first | omega | exact small_sz (by omega)))
local macro_rules | `(tactic| walk_at "x1") => `(tactic| first
  | with_reducible refine x_seq ?_
  | (with_reducible show wVar _ _ _); first | refine x_varF rfl ?_ | refine x_varO rfl ?_ | refine x_varV rfl ?_
  | with_reducible refine x_c ?_
  | with_reducible refine x_exf ?_
  | with_reducible refine x_excd ?_
  | (with_reducible show ∃ d1, Sl.cd (Sl.vw _) = some d1 ∧ _); refine x_excV rfl ?_
  | (with_reducible show ∃ d1, Sl.cd (Sl.own _) = some d1 ∧ _); refine x_excO rfl ?_
  | with_reducible refine x_binP ?_
  | with_reducible refine x_bin ?_
  | with_reducible refine x_adC ?_
  | with_reducible refine x_adN ?_
  | with_reducible refine x_lst ?_
  | with_reducible refine x_tup ?_
  | with_reducible refine x_lstO ?_
  | (with_reducible refine x_and (p := _ ≤ sizeLine) ?h ?_); (case h => walk_at "sz")
  | with_reducible refine x_callF ?_
  | with_reducible refine x_callL ?_
  | with_reducible refine x_listO ?_
  | (with_reducible show wCallU _ _ _ _ _); refine x_callU rfl ?_
  | with_reducible refine x_callV ?_
  | with_reducible refine x_join ?_
  | with_reducible refine x_waD ?_
  | with_reducible refine x_lc ?_
  | with_reducible refine x_lc2 ?_
  | with_reducible refine x_lenSets ?_
  | (with_reducible show wApp _ _ _ _); refine x_app rfl ?_
  | (with_reducible show wBinV _ _ _ _ _); refine x_binV rfl ?_
  | (with_reducible show wPopD _ _ _ _); refine x_popD rfl ?_
  | (with_reducible show wCatV _ _ _ _); refine x_catV rfl ?_
  | with_reducible refine x_slN2 ?_
  | with_reducible refine x_sortedSets ?_
  | with_reducible refine x_tplL ?_
  | with_reducible refine x_tplT ?_
  | with_reducible refine x_isB ?_
  | with_reducible refine x_r1 ?_
  | with_reducible refine x_r2 ?_
  | (with_reducible refine x_r1e ?h0 ?h1 ?_); (case h0 => omega); (case h1 => omega)
  | with_reducible refine x_iL ?_
  | with_reducible refine x_iT ?_
  | with_reducible refine x_iS ?_
  | with_reducible refine x_iE ?_
  | with_reducible refine x_iEe ?_
  | with_reducible refine x_yes ?_
  | with_reducible refine x_for ?_
  | (with_reducible show wLot _ [D.int _] _); (refine' x_lot (by assumption) ?h1 ?h2 ?h3 ?_); (case h1 => omega); (case h2 => first | decide | omega); (case h3 => first | decide | omega)
  | (with_reducible show ∃ o, _ = some (some (Sl.own o)) ∧ _); refine x_exO rfl ?_
  | with_reducible refine x_exo ?_
  | with_reducible refine x_ret ?_
  | with_reducible refine x_set ?_
  | with_reducible refine x_fin ?_
  | with_reducible refine x_fino ?_
  | (with_reducible refine x_and (p := _ < List.length _) ?h ?_); (case h => exact Nat.le_of_ble_eq_true rfl); (try dsimp only [List.set_cons_succ, List.set_cons_zero])
  | with_reducible refine x_next ?_
  | with_reducible refine x_retN ?_
  | with_reducible refine x_drop ?_
  | with_reducible refine x_asg ?_
  | (with_reducible refine x_gtp ?h ?_); (case h => rfl)
  | with_reducible refine x_gcons ?_
  | with_reducible refine x_gnil ?_
  | (with_reducible refine x_gn ?h ?_); (case h => exact Nat.le_of_ble_eq_true rfl); (try dsimp only [List.set_cons_succ, List.set_cons_zero])
  | with_reducible refine x_ifS ?_
  | with_reducible refine x_if ?_
  | with_reducible refine x_itT ?_
  | with_reducible refine x_itF ?_
  | with_reducible refine x_iteN ?_
  | with_reducible refine x_tru ?_
  | with_reducible refine x_tB ?_
  | with_reducible refine x_dtB ?_
  | with_reducible refine x_dtN ?_
  | with_reducible refine x_exb ?_
  | with_reducible refine x_exdb ?_
  | with_reducible refine x_tand ?_
  | with_reducible refine x_tor ?_
  | with_reducible refine x_tnot ?_
  | with_reducible refine x_and2 ?_
  | with_reducible refine x_or2 ?_
  | with_reducible refine x_not2 ?_
  | with_reducible refine x_chain ?_
  | with_reducible refine x_sub ?_
  | with_reducible refine x_addI ?_
  | (with_reducible refine x_addS ?h ?_); (case h => walk_at "sz")
  | (with_reducible refine x_addL ?h ?_); (case h => walk_at "sz")
  | (with_reducible refine x_addT ?h ?_); (case h => walk_at "sz")
  | with_reducible refine x_lt ?_
  | with_reducible refine x_le ?_
  | with_reducible refine x_gt ?_
  | with_reducible refine x_ge ?_
  | with_reducible refine x_ltS ?_
  | with_reducible refine x_eqI ?_
  | with_reducible refine x_neI ?_
  | with_reducible refine x_allSg ?_
  | with_reducible refine x_m0 ?_
  | with_reducible refine x_lstT ?_
  | with_reducible refine x_lstL ?_
  | with_reducible refine x_strB ?_
  | with_reducible refine x_strN ?_
  | with_reducible refine x_strS ?_
  | with_reducible refine x_isT ?_
  | with_reducible refine x_isI ?_
  | with_reducible refine x_neg ?_
  | with_reducible refine x_un ?_
  | (with_reducible refine x_pow ?h ?_); (case h => exact ⟨by decide, by decide +kernel⟩)
  | (with_reducible refine x_mod ?h ?_); (case h => first | decide | omega)
  | (with_reducible refine x_mul ?h ?_); (case h => exact mul_ok (by first | decide | omega) (by first | decide | omega))
  | (with_reducible refine x_div ?h ?_); (case h => exact div_ok (by first | decide | omega) (by first | decide | omega))
  | with_reducible refine x_ipA ?_
  | (with_reducible show wAugL _ _ _ _ _ _); refine x_augL rfl ?_
  | (with_reducible show wAug _ _ _ _ _); refine x_aug rfl ?_
  | (with_reducible show ∃ k' ds d, Sl.f (D.int _) = Sl.f (D.int k') ∧ _); refine x_augL1 rfl (by decide) rfl ?_
  | (with_reducible show ∃ k' j ds, Sl.f (D.int _) = Sl.f (D.int k') ∧ _ = some (some (Sl.own (O.lst ds))) ∧ ixN _ k' = some j ∧ _); refine x_setL1 rfl rfl ?_; (try dsimp only [List.set_cons_succ, List.set_cons_zero])
  | (with_reducible show ∃ ds j, _ = some (some (Sl.own (O.lst ds))) ∧ ixN _ _ = some j ∧ _); refine x_augL2 rfl rfl ?_; (try dsimp only [List.set_cons_succ, List.set_cons_zero])
  | (with_reducible show gSetL _ _ _ _ _); refine x_setL rfl ?_
  | (with_reducible show dIx (D.lst _) (D.int _) _); refine x_ixL rfl ?_
  | (with_reducible show dIx (D.tup _) (D.int _) _); refine x_ixT rfl ?_
  | with_reducible refine x_cb ?_
  | (with_reducible show wCB1 _ _ _ _); refine x_cb1 rfl rfl ?_
  | with_reducible refine x_fm ?_
  | with_reducible refine x_exl ?_
  | with_reducible refine x_ext ?_
  | with_reducible refine x_exs ?_
  | with_reducible refine x_exi ?_
  | with_reducible refine x_sl ?_
  | with_reducible refine x_slN ?_
  | with_reducible refine x_slS ?_
  | with_reducible refine x_frz ?_
  | with_reducible refine x_frL ?_
  | with_reducible refine x_revT ?_
  | with_reducible refine x_revL ?_
  | with_reducible refine x_splitO ?_
  | (with_reducible show wSlO _ _ _ _ _); refine x_slO rfl ?_
  | (with_reducible show ∃ ds2, _ = some (some (Sl.own (O.lst ds2))) ∧ _); refine x_exOl rfl ?_
  | with_reducible refine x_dictO ?_
  | with_reducible refine x_psC ?_
  | with_reducible refine x_psN ?_
  | with_reducible refine x_get ?_
  | (with_reducible show gSetSl _ _ _ _ _ _); refine x_setSl rfl ?_
  | with_reducible refine x_split ?_
  | with_reducible refine x_isN1 ?_
  | with_reducible refine x_isN0 rfl ?_
  | with_reducible refine x_iZ ?_
  | with_reducible refine x_zT ?_
  | with_reducible refine x_zL ?_
  | with_reducible refine x_stp ?_
  | with_reducible refine x_js ?_
  | with_reducible refine x_jsC ?_
  | with_reducible refine x_jsN ?_
  | with_reducible refine x_fmt ?_
  | with_reducible refine x_callFX ?_
  | (with_reducible refine x_glp ?h ?_); (case h => rfl)
  | with_reducible refine x_raiseR ?_
  | with_reducible refine x_row ?_
  | with_reducible refine x_lenL ?_
  | with_reducible refine x_lenT ?_
  | with_reducible refine x_lenD ?_
  | (with_reducible refine x_lenS ?h ?_); (case h => walk_at "sz")
  | with_reducible refine x_max ?_
  | with_reducible refine x_min ?_
  | with_reducible refine x_intI ?_
  | with_reducible refine x_intB ?_
  | (with_reducible refine x_isInt ?h ?_); (case h => first | assumption | exact part_ty (by assumption) | (intro _ hh; cases hh; done))
  | (with_reducible refine x_isBl ?h ?_); (case h => first | assumption | exact part_ty (by assumption) | (intro _ hh; cases hh; done))
  | (with_reducible refine x_isStr ?h ?_); (case h => first | assumption | exact part_ty (by assumption) | (intro _ hh; cases hh; done))
  | (with_reducible refine x_isTup ?h ?_); (case h => first | assumption | exact part_ty (by assumption) | (intro _ hh; cases hh; done))
  | (with_reducible refine x_isLst ?h ?_); (case h => first | assumption | exact part_ty (by assumption) | (intro _ hh; cases hh; done))
  | (with_reducible refine x_isDic ?h ?_); (case h => first | assumption | exact part_ty (by assumption) | (intro _ hh; cases hh; done))
  | (with_reducible refine x_itTe ?e ?_); (case e => rfl)
  | (with_reducible refine x_itFe ?e ?_); (case e => rfl)
  | with_reducible refine x_dnewO ?_
  | with_reducible refine x_dput ?_
  | with_reducible refine x_dix ?_
  | with_reducible refine x_sortedD ?_
  | with_reducible refine x_star ?_
  | with_reducible refine x_starT ?_
  | with_reducible refine x_frzD ?_
  | with_reducible refine x_sw ?_
  | with_reducible refine x_cnt ?_
  | with_reducible refine x_waC ?_
  | with_reducible refine x_waN ?_
  | with_reducible refine x_lenDD ?_
  | with_reducible refine x_allX ?_
  | (with_reducible show wFz _ _ _ _); refine x_fz rfl ?_
  | (with_reducible show wFzS _ _ _ _); refine x_fzS rfl ?_
  | (with_reducible show wFzO _ _ _ _); refine x_fzO rfl ?_
  | (with_reducible show wiK _ _ _); refine x_iK rfl ?_
  | (with_reducible show wiIt _ _ _); refine x_iIt rfl ?_
  | with_reducible refine x_iE1 ?_
  | with_reducible refine x_forR ?_
  | (with_reducible show wDIxV _ _ _ _); refine x_dixV rfl (cd_dicO _) ?_
  | (with_reducible show wDPop _ _ _ _); refine x_dpop rfl ?_
  | with_reducible refine x_pickO ?_
  | (with_reducible show wExt _ _ _ _); refine x_extO rfl ?_
  | with_reducible refine x_sortedR ?_
  | with_reducible refine x_sortedL ?_
  | with_reducible refine x_ixSt ?_
  | (with_reducible show wiVal _ _ _); refine x_iVal rfl ?_
  | with_reducible refine x_dictP ?_
  | with_reducible refine x_dictZip ?_
  | with_reducible refine x_revS ?_
  | with_reducible refine x_par ?_
  | (with_reducible show wIsiV _ _ _ _ _); refine x_isiV rfl ?_
  | ((with_reducible show _ ∧ _); refine And.intro (Nat.le_of_ble_eq_true rfl) ?_))
local macro_rules | `(tactic| walk_at "x") => `(tactic| repeat (walk_at "x1"))

section
variable {P : Program} {w : World} {K : PySem.W.Frag} {mg : Str → Option Value} {base : Heap} {tabs : List Addr}
/-! ### which leaves lie within which -/
def wLies : WFn := fun ds Q => ∃ (n : D) (r : Str) (dd : List D) (g : D) (h : D) (s u p : Int) (v : D) (n' : D) (r' : Str) (ee : List D) (g' : D) (h' : Str) (s' u' p' : Int) (v' : D) (gs : Str),
  ds = [.tup [n, .str r, .tup dd, g, h, .int s, .int u, .int p, v], .tup [n', .str r', .tup ee, g', .str h', .int s', .int u', .int p', v']] ∧ g = .str gs ∧ PyData.strOk r = true ∧ PyData.strOk r' = true ∧ PyData.strOk gs = true ∧ PyData.strOk h' = true ∧ (∀ d ∈ dd, okPy d = true) ∧ okPy (.tup ee) = true ∧
  Q (.f (.bl (eqB (.str r') (.str r) && (dd.all (memB ee) && (decide (s' ≤ s) && (decide (u ≤ u') && (decide (p < p') && eqB (.str h') (.str gs))))))))
theorem mono_lies_within : MonoF wLies := fun ds Q Q' i ⟨n, r, dd, g, h, s, u, p, v, n', r', ee, g', h', s', u', p', v', gs, a1, a2, a3, a4, a5, a6, a7, a8, q⟩ => ⟨n, r, dd, g, h, s, u, p, v, n', r', ee, g', h', s', u', p', v', gs, a1, a2, a3, a4, a5, a6, a7, a8, i _ q⟩
theorem ok_lies {c Pn : Addr} (in_lies_within : Pn ∈ tabs) (T : Txt K mg) (tb_lies_within : GxR.TabB base mg c Pn) (A : AtC K mg "lies_within" s_lies_within ["leave", "other"] c) : Cal P w K mg base 2 "lies_within" (spW K tabs (liftF wLies)) := by
  refine A.of fun f fd F hc => fx_fnF F sc_lies_within (fun ds Q ⟨_, _, _, _, _, _, _, _, _, _, _, _, _, _, _, _, _, _, _, h, _⟩ => by rw [h]; rfl) fun cdv A outer s H E TT P0 σ0 hcd hr => ?_
  obtain rfl : cdv = .ref c := hcd.symm.trans hc
  refine ⟨_, (gss_one (gs_ret (ge_and (GE.of_pure (gp_cmp (opx_eq hr.units) (gp_ix ixx (gp_var (pv 1)) (gp_k T.g_ROOM rfl) (fun _ _ => rfl)) (gp_ix ixx (gp_var (pv 0)) (gp_k T.g_ROOM rfl) (fun _ _ => rfl)) (nomark _))) (ge_and (ge_allX (cs := [1]) tb_lies_within hr rfl T.z_all rfl (genSF (fr := ["other"]) (by decide +kernel) (fun y hy => by simp only [List.mem_cons, List.not_mem_nil, or_false] at hy; rcases hy with rfl <;> exact L2.cell_has (by decide +kernel))) (fun j hj => by simp only [List.mem_cons, List.not_mem_nil, or_false] at hj; rcases hj with rfl <;> exact ⟨_, rfl, rfl, .inl rfl⟩) (show (gN (["leave", "other"] : List Str) "deed" [1]).Nodup by decide +kernel) (gi_tup (GE.of_pure (gp_ix ixx (gp_var (pv 0)) (gp_k T.g_DEEDS rfl) (fun _ _ => rfl)))) (fun s4 H1 C cl cd A' fp pn T0 H0 σ0 hr => (GE.of_pure (gp_cmp (opx_in hr.u65) (gp_var (pv 1)) (gp_ix ixx (gp_var (pv 2)) (gp_k T.g_DEEDS rfl) (fun _ _ => rfl)) (by rfl)))) (fun _ => rfl) in_lies_within) (ge_and (GE.of_pure (gp_cmp opx_le (gp_ix ixx (gp_var (pv 1)) (gp_k T.g_SINCE rfl) (fun _ _ => rfl)) (gp_ix ixx (gp_var (pv 0)) (gp_k T.g_SINCE rfl) (fun _ _ => rfl)) (nomark _))) (ge_and (GE.of_pure (gp_cmp opx_ge (gp_ix ixx (gp_var (pv 1)) (gp_k T.g_UNTIL rfl) (fun _ _ => rfl)) (gp_ix ixx (gp_var (pv 0)) (gp_k T.g_UNTIL rfl) (fun _ _ => rfl)) (nomark _))) (ge_and (GE.of_pure (gp_cmp opx_gt (gp_ix ixx (gp_var (pv 1)) (gp_k T.g_PASSES rfl) (fun _ _ => rfl)) (gp_ix ixx (gp_var (pv 0)) (gp_k T.g_PASSES rfl) (fun _ _ => rfl)) (nomark _))) (ge_one (GE.of_pure (gp_cmp (opx_eq hr.units) (gp_ix ixx (gp_var (pv 1)) (gp_k T.g_HOLDER rfl) (fun _ _ => rfl)) (gp_ix ixx (gp_var (pv 0)) (gp_k T.g_GIVER rfl) (fun _ _ => rfl)) (nomark _))))))))))), fun ds Q ⟨n, r, dd, g, h, s, u, p, v, n', r', ee, g', h', s', u', p', v', gs, a1, a2, a3, a4, a5, a6, a7, a8, k⟩ => ?_⟩
  subst a1 a2
  refine x_start (e := [some (.f (.tup [n, .str r, .tup dd, .str gs, h, .int s, .int u, .int p, v])), some (.f (.tup [n', .str r', .tup ee, g', .str h', .int s', .int u', .int p', v']))]) rfl ?_
  walk_at "x"
  refine x_eqD (okPy_str a4) (okPy_str a3) ?_
  cases e1 : eqB (.str r') (.str r) with
  | false =>
    rw [e1, Bool.false_and] at k
    walk_at "x"
    exact k
  | true =>
    rw [e1, Bool.true_and] at k
    walk_at "x"
    refine ⟨memB ee, fun d hd => ?_, ?_⟩
    · show wBinP _ _ _ [none, some (.f d), some (.f (.tup [n', .str r', .tup ee, g', .str h', .int s', .int u', .int p', v']))] _
      walk_at "x"
      exact x_inT (a7 d hd) a8 rfl
    refine ⟨_, rfl, ?_⟩
    rw [show qAll true dd (memB ee) = dd.all (memB ee) from rfl]
    refine x_ite (fun h1 => ?_) (fun h1 => ?_)
    · rw [h1, Bool.true_and] at k
      walk_at "x"
      refine x_ite (fun h2 => ?_) (fun h2 => ?_)
      · rw [h2, Bool.true_and] at k
        walk_at "x"
        refine x_ite (fun h3 => ?_) (fun h3 => ?_)
        · rw [show decide (u ≤ u') = true from h3, Bool.true_and] at k
          walk_at "x"
          refine x_ite (fun h4 => ?_) (fun h4 => ?_)
          · rw [show decide (p < p') = true from h4, Bool.true_and] at k
            walk_at "x"
            refine x_eqD (okPy_str a6) (okPy_str a5) ?_
            walk_at "x"
            exact k
          · rw [show decide (p < p') = false from h4, Bool.false_and] at k
            walk_at "x"
            exact k
        · rw [show decide (u ≤ u') = false from h3, Bool.false_and] at k
          walk_at "x"
          exact k
      · rw [h2, Bool.false_and] at k
        walk_at "x"
        exact k
    · rw [h1, Bool.false_and] at k
      walk_at "x"
      exact k

/-! ### givers, wishes -/
def withinV (r o : Rw) : Bool := ((deedsL r.p).all (memB (deedsL o.p))) && (decide (o.s ≤ r.s) && (decide (r.u ≤ o.u) && (decide (r.k < o.k) && (o.h == r.g))))
def giverV (oo : Str) (rs : List Rw) (r : Rw) : Bool := (r.g == oo) || rs.any (withinV r)
def wHasGiver : WFn := fun ds Q => ∃ (oo : Str) (ts : List Ti) (xs : List Wi) (rs : List Rw) (r : Rw), ds = [trustD oo ts xs, .tup (rs.map Rw.d), r.d] ∧ TrOk oo ts xs ∧ (∀ o ∈ rs, o.W) ∧ rs.length ≤ 100 ∧ r.W ∧ Q (.f (.bl (giverV oo rs r)))
theorem mono__has_giver : MonoF wHasGiver := fun ds Q Q' i ⟨oo, ts, xs, rs, r, h1, h2, h3, h4, h5, q⟩ => ⟨oo, ts, xs, rs, r, h1, h2, h3, h4, h5, i _ q⟩
theorem ok_hasgiver (T : Txt K mg) (c_lies_within : Cal P w K mg base 2 "lies_within" (spW K tabs (liftF wLies))) (c__made_leave : Cal P w K mg base 1 "_made_leave" (spW K tabs (liftF wMade))) (A : At K mg "_has_giver" s__has_giver ["trust", "plan", "row"]) :
    Cal P w K mg base 3 "_has_giver" (spW K tabs (liftF wHasGiver)) := by
  refine A.of fun f fd F => fx_fnF F sc__has_giver (fun ds Q ⟨_, _, _, _, _, h, _⟩ => by rw [h]; rfl) fun cdv A outer s H E TT P0 σ0 hcd hr => ⟨_, (gss_cons (gs_if (gt_cmpP (opx_eq hr.units) (gp_ix ixx (gp_var (pv 2)) gp_int (fun _ _ => rfl)) (gp_ix ixx (gp_var (pv 0)) (gp_k T.g_OWNER rfl) (fun _ _ => rfl)) (nomark _))
      (gss_one (gs_ret (GE.of_pure gp_bl)))
      gss_nil)
      (gss_one (gs_ret (ge_cbB (cax_any rfl) (by rfl) T.z_any (by decide +kernel) (gd_cons (ge_frz (ge_lcR (own := [("other", 3)]) (t := .name 3) rfl sc__has_giver.nd (gi_tup (GE.of_pure (gp_var (pv 1)))) (blkOk_by (own := [("other", 3)]) (N := ["trust", "plan", "row", "other"]) (sc := defScope s__has_giver) (by decide +kernel)) (fun _ _ _ _ _ => (pg_name (i := 3) sc__has_giver.nd rfl (Or.inl rfl))) (fun _ _ _ _ _ => (ge_callF c_lies_within hr (by decide) rfl rfl rfl mono_lies_within (gd_cons (ge_callF c__made_leave hr (by decide) rfl rfl rfl mono__made_leave (gd_cons (GE.of_pure (gp_var (pv 2))) gd_nil)) (gd_cons (ge_callF c__made_leave hr (by decide) rfl rfl rfl mono__made_leave (gd_cons (GE.of_pure (gp_var (pv 3))) gd_nil)) gd_nil)))) (by decide) (mem1 rfl) (mem1 (Nat.le_of_ble_eq_true rfl)))) gd_nil))))), fun ds Q ⟨oo, ts, xs, rs, r, e, tr, hrs, hl, hw, q⟩ => ?_⟩
  subst e
  refine x_start (e := [some (.f (.tup [.str oo, .tup (ts.map Ti.d), .tup (xs.map Wi.d)])), some (.f (.tup (rs.map Rw.d))), some (.f (.tup [.str r.g, .str r.h, r.p, .int r.s, .int r.u, .int r.k])), none]) rfl ?_
  walk_at "x"
  refine x_eqD (okPy_str hw.g) (okPy_str (name_cp tr.hoo)) ?_
  rw [eq_strs]
  unfold giverV at q
  cases hc : r.g == oo with
  | true =>
    rw [hc, Bool.true_or] at q
    walk_at "x"
    exact q
  | false =>
    rw [hc, Bool.false_or] at q
    walk_at "x"
    refine ⟨by rw [List.length_map]; omega, fun i acc e => acc = ((rs.take i).map (withinV r)).map D.bl ∧ ∃ x3, e = [some (.f (.tup [.str oo, .tup (ts.map Ti.d), .tup (xs.map Wi.d)])), some (.f (.tup (rs.map Rw.d))), some (.f (.tup [.str r.g, .str r.h, r.p, .int r.s, .int r.u, .int r.k])), x3], ⟨rfl, _, rfl⟩, ?_, ?_⟩
    · rintro i d acc e hd ⟨rfl, x3, rfl⟩
      rw [List.getElem?_map] at hd
      obtain ⟨o, ho, rfl⟩ := Option.map_eq_some_iff.mp hd
      have ow := hrs o (List.mem_of_getElem? ho)
      have d1 := deeds4_tup hw.p
      have d2 := deeds4_tup ow.p
      refine ⟨_, rfl, ?_⟩
      dsimp only [List.map_cons, List.map_nil, wipeE, setE, Tgt.js, List.set_cons_zero, List.set_cons_succ]
      walk_at "x"
      refine ⟨r, rfl, ?_⟩
      walk_at "x"
      refine ⟨o, rfl, ?_⟩
      walk_at "x"
      refine ⟨.int 0, "room", deedsL r.p, .str r.g, .str r.h, r.s, r.u, r.k, .non, .int 0, "room", deedsL o.p, .str o.g, o.h, o.s, o.u, o.k, .non, r.g, by rw [← d1.1, ← d2.1], rfl, by decide +kernel, by decide +kernel, hw.g, ow.h, d1.2.1, d2.2.2.1, ?_⟩
      rw [eq_strs, eq_strs, beq_self_eq_true, Bool.true_and]
      walk_at "x"
      exact ⟨by rw [take_snoc ho, List.map_append, List.map_append]; rfl, _, rfl⟩
    rintro acc e ⟨rfl, x3, rfl⟩
    rw [List.length_map, List.take_length]
    try dsimp only [List.map_cons, List.map_nil, wipeE, List.set_cons_zero, List.set_cons_succ]
    walk_at "x"
    refine x_any ?_
    rw [List.any_map, show (id ∘ withinV r) = withinV r from rfl]
    walk_at "x"
    exact q
def fitV (x : Wi) (r : Rw) : Bool := decide (r.s ≤ x.s) && (decide (x.u ≤ r.u) && (deedsL x.p).all (memB (deedsL r.p)))
def grantV (x : Wi) : List Rw → Bool
  | [] => false
  | r :: rs => if r.h = x.a then fitV x r else grantV x rs
theorem grant_drop {x : Wi} : ∀ {rs : List Rw} {i : Nat}, (∀ j r, j < i → rs[j]? = some r → r.h ≠ x.a) → i ≤ rs.length → grantV x rs = grantV x (rs.drop i)
  | rs, 0, _, _ => rfl
  | [], i + 1, _, h => absurd h (by simp)
  | r :: rs, i + 1, hj, h => by
    have e : grantV x (r :: rs) = grantV x rs := if_neg (hj 0 r (Nat.succ_pos _) rfl)
    rw [e]
    exact grant_drop (i := i) (fun j r h1 h2 => hj (j + 1) r (Nat.succ_lt_succ h1) h2) (Nat.le_of_succ_le_succ h)
def wGranted : WFn := fun ds Q => ∃ (rs : List Rw) (x : Wi), ds = [.tup (rs.map Rw.d), x.d] ∧ x.Ok ∧ (∀ r ∈ rs, r.W) ∧ Q (.f (.bl (grantV x rs)))
theorem mono__is_granted : MonoF wGranted := fun ds Q Q' i ⟨rs, x, h1, h2, h3, q⟩ => ⟨rs, x, h1, h2, h3, i _ q⟩
theorem ok_granted (T : Txt K mg) (A : At K mg "_is_granted" s__is_granted ["plan", "wish"]) : Cal P w K mg base 1 "_is_granted" (spW K tabs (liftF wGranted)) := by
  refine A.of fun f fd F => fx_fnF F sc__is_granted (fun ds Q ⟨_, _, h, _⟩ => by rw [h]; rfl) fun cdv A outer s H E TT P0 σ0 hcd hr => ⟨_, (gss_cons (gs_asg (GE.of_pure (gp_var (pv 1))) (gg_tup (n := 4) rfl (ggs_cons (pg_name (i := 2) sc__is_granted.nd rfl (Or.inl rfl)) rfl (ggs_cons (pg_name (i := 3) sc__is_granted.nd rfl (Or.inl rfl)) rfl (ggs_cons (pg_name (i := 4) sc__is_granted.nd rfl (Or.inl rfl)) rfl (ggs_cons (pg_name (i := 5) sc__is_granted.nd rfl (Or.inl rfl)) rfl ggs_nil))))))
      (gss_cons (gs_for PassesOwn.never rfl (gi_tup (GE.of_pure (gp_var (pv 0)))) (gg_tup (n := 6) rfl (ggs_cons (pg_name (i := 6) sc__is_granted.nd rfl (Or.inl rfl)) rfl (ggs_cons (pg_name (i := 7) sc__is_granted.nd rfl (Or.inl rfl)) rfl (ggs_cons (pg_name (i := 8) sc__is_granted.nd rfl (Or.inr rfl)) rfl (ggs_cons (pg_name (i := 9) sc__is_granted.nd rfl (Or.inl rfl)) rfl (ggs_cons (pg_name (i := 10) sc__is_granted.nd rfl (Or.inl rfl)) rfl (ggs_cons (pg_name (i := 6) sc__is_granted.nd rfl (Or.inl rfl)) rfl ggs_nil)))))))
      (gss_one (gs_if (gt_cmpP (opx_eq hr.units) (gp_var (pv 7)) (gp_var (pv 2)) (nomark _))
      (gss_one (gs_ret (ge_and (GE.of_pure (gp_cmp opx_le (gp_var (pv 9)) (gp_var (pv 4)) (nomark _))) (ge_and (GE.of_pure (gp_cmp opx_le (gp_var (pv 5)) (gp_var (pv 10)) (nomark _))) (ge_one (ge_cbB (cax_all rfl) (by rfl) T.z_all (by decide +kernel) (gd_cons (ge_frz (ge_lcR (own := [("deed", 11)]) (t := .name 11) rfl sc__is_granted.nd (gi_tup (GE.of_pure (gp_var (pv 3)))) (blkOk_by (own := [("deed", 11)]) (N := ["plan", "wish", "actor", "deeds", "since", "until", "_", "holder", "granted", "first", "last", "deed"]) (sc := defScope s__is_granted) (by decide +kernel)) (fun _ _ _ _ _ => (pg_name (i := 11) sc__is_granted.nd rfl (Or.inl rfl))) (fun _ _ _ _ _ => (GE.of_pure (gp_cmp (opx_in hr.u65) (gp_var (pv 11)) (gp_var (pv 8)) (by rfl)))) (by decide) (mem1 rfl) (mem1 (Nat.le_of_ble_eq_true rfl)))) gd_nil)))))))
      gss_nil)))
      (gss_one (gs_ret (GE.of_pure gp_bl))))), fun ds Q ⟨rs, x, e, hx, hrs, q⟩ => ?_⟩
  subst e
  obtain ⟨xa, xp, xs', xu⟩ := x
  have dx := deeds4_tup (deeds_four hx.p)
  have hxa : nameB (.str xa) = true := hx.a
  obtain ⟨xd, rfl⟩ : ∃ xd, xp = .tup xd := ⟨_, dx.1⟩
  have dx2 : ∀ d ∈ xd, okPy d = true := dx.2.1
  have dx3 : xd.length ≤ 2 := dx.2.2.2.1
  refine x_start (e := [some (.f (.tup (rs.map Rw.d))), some (.f (.tup [.str xa, .tup xd, .int xs', .int xu])), none, none, none, none, none, none, none, none, none, none]) rfl ?_
  walk_at "x"
  refine ⟨fun i e => (∀ j r, j < i → rs[j]? = some r → r.h ≠ xa) ∧ ∃ x6 x7 x8 x9 x10, e = [some (.f (.tup (rs.map Rw.d))), some (.f (.tup [.str xa, .tup xd, .int xs', .int xu])), some (.f (.str xa)), some (.f (.tup xd)), some (.f (.int xs')), some (.f (.int xu)), x6, x7, x8, x9, x10, none], ⟨fun j y h => absurd h (Nat.not_lt_zero _), _, _, _, _, _, rfl⟩, ?_, ?_⟩
  · rintro i d e hd ⟨hj, x6, x7, x8, x9, x10, rfl⟩
    rw [List.getElem?_map] at hd
    obtain ⟨r, hr0, rfl⟩ := Option.map_eq_some_iff.mp hd
    have rw_ := hrs r (List.mem_of_getElem? hr0)
    have dr := deeds4_tup rw_.p
    obtain ⟨hi, er⟩ := List.getElem?_eq_some_iff.mp hr0
    obtain ⟨rg, rh, rp, rs', ru, rk⟩ := r
    obtain ⟨rd, rfl⟩ : ∃ rd, rp = .tup rd := ⟨_, dr.1⟩
    have dr3 : okPy (.tup rd) = true := dr.2.2.1
    rw [show Rw.d { g := rg, h := rh, p := .tup rd, s := rs', u := ru, k := rk } = .tup [.str rg, .str rh, .tup rd, .int rs', .int ru, .int rk] from rfl]
    walk_at "x"
    refine x_eqD (okPy_str rw_.h) (okPy_str (name_cp hxa)) ?_
    rw [eq_strs]
    cases hb : rh == xa with
    | true =>
      rw [grant_drop hj (Nat.le_of_lt hi), List.drop_eq_getElem_cons hi, er, show grantV ⟨xa, .tup xd, xs', xu⟩ (⟨rg, rh, .tup rd, rs', ru, rk⟩ :: rs.drop (i + 1)) = fitV ⟨xa, .tup xd, xs', xu⟩ ⟨rg, rh, .tup rd, rs', ru, rk⟩ from if_pos (eq_of_beq hb)] at q
      have q : Q (.f (.bl (decide (rs' ≤ xs') && (decide (xu ≤ ru) && xd.all (memB rd))))) := q
      walk_at "x"
      refine x_ite (fun h1 => ?_) (fun h1 => ?_)
      · rw [h1, Bool.true_and] at q
        walk_at "x"
        refine x_ite (fun h2 => ?_) (fun h2 => ?_)
        · rw [h2, Bool.true_and] at q
          walk_at "x"
          refine ⟨by omega, fun j acc e => acc = ((xd.take j).map (memB rd)).map D.bl ∧ ∃ x11, e = [some (.f (.tup (rs.map Rw.d))), some (.f (.tup [.str xa, .tup xd, .int xs', .int xu])), some (.f (.str xa)), some (.f (.tup xd)), some (.f (.int xs')), some (.f (.int xu)), some (.f (.int rk)), some (.f (.str rh)), some (.f (.tup rd)), some (.f (.int rs')), some (.f (.int ru)), x11], ⟨rfl, _, rfl⟩, ?_, ?_⟩
          · rintro j d acc e hd2 ⟨rfl, x11, rfl⟩
            refine ⟨_, rfl, ?_⟩
            dsimp only [List.map_cons, List.map_nil, wipeE, setE, Tgt.js, List.set_cons_zero, List.set_cons_succ]
            walk_at "x"
            refine x_inT (dx2 d (List.mem_of_getElem? hd2)) dr3 ?_
            walk_at "x"
            exact ⟨by rw [take_snoc hd2, List.map_append, List.map_append]; rfl, _, rfl⟩
          rintro acc e ⟨rfl, x11, rfl⟩
          rw [List.take_length]
          try dsimp only [List.map_cons, List.map_nil, wipeE, List.set_cons_zero, List.set_cons_succ]
          walk_at "x"
          refine x_all ?_
          rw [List.all_map, show (id ∘ memB rd) = memB rd from rfl]
          walk_at "x"
          exact q
        · rw [h2, Bool.false_and] at q
          walk_at "x"
          exact q
      · rw [h1, Bool.false_and] at q
        walk_at "x"
        exact q
    | false =>
      walk_at "x"
      refine ⟨fun j y hj2 hy2 => ?_, _, _, _, _, _, rfl⟩
      rcases Nat.lt_succ_iff_lt_or_eq.mp hj2 with l | l
      · exact hj j y l hy2
      · subst l
        rw [hr0] at hy2
        cases hy2
        exact fun e => by rw [show rh = xa from e, beq_self_eq_true] at hb; cases hb
  rintro e ⟨hj, x6, x7, x8, x9, x10, rfl⟩
  rw [List.length_map] at hj
  rw [grant_drop hj (Nat.le_refl _), List.drop_length] at q
  walk_at "x"
  exact q

end
end K75

namespace K75
open PySem PySem.Spec PyProof.Rows L2 Lk Evl Fx



local macro_rules | `(tactic| walk_at "sz") => `(tactic| first
  | exact Nat.le_of_ble_eq_true rfl
  | assumption
  | exact small_sz (Nat.le_of_ble_eq_true rfl)
  | (simp only [List.length_cons, List.length_nil, List.length_map, List.length_append]; first | omega | exact small_sz (by omega)))
local macro_rules | `(tactic| walk_at "x1") => `(tactic| first
  | with_reducible refine x_seq ?_
  | (with_reducible show wVar _ _ _); first | refine x_varF rfl ?_ | refine x_varO rfl ?_ | refine x_varV rfl ?_
  | with_reducible refine x_c ?_
  | with_reducible refine x_exf ?_
  | with_reducible refine x_excd ?_
  | (with_reducible show ∃ d1, Sl.cd (Sl.vw _) = some d1 ∧ _); refine x_excV rfl ?_
  | (with_reducible show ∃ d1, Sl.cd (Sl.own _) = some d1 ∧ _); refine x_excO rfl ?_
  | with_reducible refine x_binP ?_
  | with_reducible refine x_bin ?_
  | with_reducible refine x_adC ?_
  | with_reducible refine x_adN ?_
  | with_reducible refine x_lst ?_
  | with_reducible refine x_tup ?_
  | with_reducible refine x_lstO ?_
  | (with_reducible refine x_and (p := _ ≤ sizeLine) ?h ?_); (case h => walk_at "sz")
  | with_reducible refine x_callF ?_
  | with_reducible refine x_callL ?_
  | with_reducible refine x_listO ?_
  | (with_reducible show wCallU _ _ _ _ _); refine x_callU rfl ?_
  | with_reducible refine x_callV ?_
  | with_reducible refine x_join ?_
  | with_reducible refine x_waD ?_
  | with_reducible refine x_lc ?_
  | with_reducible refine x_lc2 ?_
  | with_reducible refine x_lenSets ?_
  | (with_reducible show wApp _ _ _ _); refine x_app rfl ?_
  | (with_reducible show wBinV _ _ _ _ _); refine x_binV rfl ?_
  | (with_reducible show wPopD _ _ _ _); refine x_popD rfl ?_
  | (with_reducible show wCatV _ _ _ _); refine x_catV rfl ?_
  | with_reducible refine x_slN2 ?_
  | with_reducible refine x_sortedSets ?_
  | with_reducible refine x_tplL ?_
  | with_reducible refine x_tplT ?_
  | with_reducible refine x_isB ?_
  | with_reducible refine x_r1 ?_
  | with_reducible refine x_r2 ?_
  | (with_reducible refine x_r1e ?h0 ?h1 ?_); (case h0 => omega); (case h1 => omega)
  | with_reducible refine x_iL ?_
  | with_reducible refine x_iT ?_
  | with_reducible refine x_iS ?_
  | with_reducible refine x_iE ?_
  | with_reducible refine x_iEe ?_
  | with_reducible refine x_yes ?_
  | with_reducible refine x_for ?_
  | (with_reducible show wLot _ [D.int _] _); (refine' x_lot (by assumption) ?h1 ?h2 ?h3 ?_); (case h1 => omega); (case h2 => first | decide | omega); (case h3 => first | decide | omega)
  | (with_reducible show ∃ o, _ = some (some (Sl.own o)) ∧ _); refine x_exO rfl ?_
  | with_reducible refine x_exo ?_
  | with_reducible refine x_ret ?_
  | with_reducible refine x_set ?_
  | with_reducible refine x_fin ?_
  | with_reducible refine x_fino ?_
  | (with_reducible refine x_and (p := _ < List.length _) ?h ?_); (case h => exact Nat.le_of_ble_eq_true rfl); (try dsimp only [List.set_cons_succ, List.set_cons_zero])
  | with_reducible refine x_next ?_
  | with_reducible refine x_retN ?_
  | with_reducible refine x_drop ?_
  | with_reducible refine x_asg ?_
  | (with_reducible refine x_gtp ?h ?_); (case h => rfl)
  | with_reducible refine x_gcons ?_
  | with_reducible refine x_gnil ?_
  | (with_reducible refine x_gn ?h ?_); (case h => exact Nat.le_of_ble_eq_true rfl); (try dsimp only [List.set_cons_succ, List.set_cons_zero])
  | with_reducible refine x_ifS ?_
  | with_reducible refine x_if ?_
  | with_reducible refine x_itT ?_
  | with_reducible refine x_itF ?_
  | with_reducible refine x_iteN ?_
  | with_reducible refine x_tru ?_
  | with_reducible refine x_tB ?_
  | with_reducible refine x_dtB ?_
  | with_reducible refine x_dtN ?_
  | with_reducible refine x_exb ?_
  | with_reducible refine x_exdb ?_
  | with_reducible refine x_tand ?_
  | with_reducible refine x_tor ?_
  | with_reducible refine x_tnot ?_
  | with_reducible refine x_and2 ?_
  | with_reducible refine x_or2 ?_
  | with_reducible refine x_not2 ?_
  | with_reducible refine x_chain ?_
  | with_reducible refine x_sub ?_
  | with_reducible refine x_addI ?_
  | (with_reducible refine x_addS ?h ?_); (case h => walk_at "sz")
  | (with_reducible refine x_addL ?h ?_); (case h => walk_at "sz")
  | (with_reducible refine x_addT ?h ?_); (case h => walk_at "sz")
  | with_reducible refine x_lt ?_
  | with_reducible refine x_le ?_
  | with_reducible refine x_gt ?_
  | with_reducible refine x_ge ?_
  | with_reducible refine x_ltS ?_
  | with_reducible refine x_eqI ?_
  | with_reducible refine x_neI ?_
  | with_reducible refine x_allSg ?_
  | with_reducible refine x_m0 ?_
  | with_reducible refine x_lstT ?_
  | with_reducible refine x_lstL ?_
  | with_reducible refine x_strB ?_
  | with_reducible refine x_strN ?_
  | with_reducible refine x_strS ?_
  | with_reducible refine x_isT ?_
  | with_reducible refine x_isI ?_
  | with_reducible refine x_neg ?_
  | with_reducible refine x_un ?_
  | (with_reducible refine x_pow ?h ?_); (case h => exact ⟨by decide, by decide +kernel⟩)
  | (with_reducible refine x_mod ?h ?_); (case h => first | decide | omega)
  | (with_reducible refine x_mul ?h ?_); (case h => exact mul_ok (by first | decide | omega) (by first | decide | omega))
  | (with_reducible refine x_div ?h ?_); (case h => exact div_ok (by first | decide | omega) (by first | decide | omega))
  | with_reducible refine x_ipA ?_
  | (with_reducible show wAugL _ _ _ _ _ _); refine x_augL rfl ?_
  | (with_reducible show wAug _ _ _ _ _); refine x_aug rfl ?_
  | (with_reducible show ∃ k' ds d, Sl.f (D.int _) = Sl.f (D.int k') ∧ _); refine x_augL1 rfl (by decide) rfl ?_
  | (with_reducible show ∃ k' j ds, Sl.f (D.int _) = Sl.f (D.int k') ∧ _ = some (some (Sl.own (O.lst ds))) ∧ ixN _ k' = some j ∧ _); refine x_setL1 rfl rfl ?_; (try dsimp only [List.set_cons_succ, List.set_cons_zero])
  | (with_reducible show ∃ ds j, _ = some (some (Sl.own (O.lst ds))) ∧ ixN _ _ = some j ∧ _); refine x_augL2 rfl rfl ?_; (try dsimp only [List.set_cons_succ, List.set_cons_zero])
  | (with_reducible show gSetL _ _ _ _ _); refine x_setL rfl ?_
  | (with_reducible show dIx (D.lst _) (D.int _) _); refine x_ixL rfl ?_
  | (with_reducible show dIx (D.tup _) (D.int _) _); refine x_ixT rfl ?_
  | with_reducible refine x_cb ?_
  | (with_reducible show wCB1 _ _ _ _); refine x_cb1 rfl rfl ?_
  | with_reducible refine x_fm ?_
  | with_reducible refine x_exl ?_
  | with_reducible refine x_ext ?_
  | with_reducible refine x_exs ?_
  | with_reducible refine x_exi ?_
  | with_reducible refine x_sl ?_
  | with_reducible refine x_slN ?_
  | with_reducible refine x_slS ?_
  | with_reducible refine x_frz ?_
  | with_reducible refine x_frL ?_
  | with_reducible refine x_revT ?_
  | with_reducible refine x_revL ?_
  | with_reducible refine x_splitO ?_
  | (with_reducible show wSlO _ _ _ _ _); refine x_slO rfl ?_
  | (with_reducible show ∃ ds2, _ = some (some (Sl.own (O.lst ds2))) ∧ _); refine x_exOl rfl ?_
  | with_reducible refine x_dictO ?_
  | with_reducible refine x_psC ?_
  | with_reducible refine x_psN ?_
  | with_reducible refine x_get ?_
  | (with_reducible show gSetSl _ _ _ _ _ _); refine x_setSl rfl ?_
  | with_reducible refine x_split ?_
  | with_reducible refine x_isN1 ?_
  | with_reducible refine x_isN0 rfl ?_
  | with_reducible refine x_iZ ?_
  | with_reducible refine x_zT ?_
  | with_reducible refine x_zL ?_
  | with_reducible refine x_stp ?_
  | with_reducible refine x_js ?_
  | with_reducible refine x_jsC ?_
  | with_reducible refine x_jsN ?_
  | with_reducible refine x_fmt ?_
  | with_reducible refine x_callFX ?_
  | (with_reducible refine x_glp ?h ?_); (case h => rfl)
  | with_reducible refine x_raiseR ?_
  | with_reducible refine x_row ?_
  | with_reducible refine x_lenL ?_
  | with_reducible refine x_lenT ?_
  | with_reducible refine x_lenD ?_
  | (with_reducible refine x_lenS ?h ?_); (case h => walk_at "sz")
  | with_reducible refine x_max ?_
  | with_reducible refine x_min ?_
  | with_reducible refine x_intI ?_
  | with_reducible refine x_intB ?_
  | (with_reducible refine x_isInt ?h ?_); (case h => first | assumption | exact part_ty (by assumption) | (intro _ hh; cases hh; done))
  | (with_reducible refine x_isBl ?h ?_); (case h => first | assumption | exact part_ty (by assumption) | (intro _ hh; cases hh; done))
  | (with_reducible refine x_isStr ?h ?_); (case h => first | assumption | exact part_ty (by assumption) | (intro _ hh; cases hh; done))
  | (with_reducible refine x_isTup ?h ?_); (case h => first | assumption | exact part_ty (by assumption) | (intro _ hh; cases hh; done))
  | (with_reducible refine x_isLst ?h ?_); (case h => first | assumption | exact part_ty (by assumption) | (intro _ hh; cases hh; done))
  | (with_reducible refine x_isDic ?h ?_); (case h => first | assumption | exact part_ty (by assumption) | (intro _ hh; cases hh; done))
  | (with_reducible refine x_itTe ?e ?_); (case e => rfl)
  | (with_reducible refine x_itFe ?e ?_); (case e => rfl)
  | with_reducible refine x_dnewO ?_
  | with_reducible refine x_dput ?_
  | with_reducible refine x_dix ?_
  | with_reducible refine x_sortedD ?_
  | with_reducible refine x_star ?_
  | with_reducible refine x_starT ?_
  | with_reducible refine x_frzD ?_
  | with_reducible refine x_sw ?_
  | with_reducible refine x_cnt ?_
  | with_reducible refine x_waC ?_
  | with_reducible refine x_waN ?_
  | with_reducible refine x_lenDD ?_
  | with_reducible refine x_allX ?_
  | (with_reducible show wFz _ _ _ _); refine x_fz rfl ?_
  | (with_reducible show wFzS _ _ _ _); refine x_fzS rfl ?_
  | (with_reducible show wFzO _ _ _ _); refine x_fzO rfl ?_
  | (with_reducible show wiK _ _ _); refine x_iK rfl ?_
  | (with_reducible show wiIt _ _ _); refine x_iIt rfl ?_
  | with_reducible refine x_iE1 ?_
  | with_reducible refine x_forR ?_
  | (with_reducible show wDIxV _ _ _ _); refine x_dixV rfl (cd_dicO _) ?_
  | (with_reducible show wDPop _ _ _ _); refine x_dpop rfl ?_
  | with_reducible refine x_pickO ?_
  | (with_reducible show wExt _ _ _ _); refine x_extO rfl ?_
  | with_reducible refine x_sortedR ?_
  | with_reducible refine x_sortedL ?_
  | with_reducible refine x_ixSt ?_
  | (with_reducible show wiVal _ _ _); refine x_iVal rfl ?_
  | with_reducible refine x_dictP ?_
  | with_reducible refine x_dictZip ?_
  | with_reducible refine x_revS ?_
  | with_reducible refine x_par ?_
  | (with_reducible show wIsiV _ _ _ _ _); refine x_isiV rfl ?_
  | ((with_reducible show _ ∧ _); refine And.intro (Nat.le_of_ble_eq_true rfl) ?_))
local macro_rules | `(tactic| walk_at "x") => `(tactic| repeat (walk_at "x1"))

section
variable {P : Program} {w : World} {K : PySem.W.Frag} {mg : Str → Option Value} {base : Heap} {tabs : List Addr}
/-! ### trusts, made -/
def TieIn (ns : List Str) (t : D) : Prop := ∃ (a b : Str) (s u : Int), t = .tup [.str a, .str b, .int s, .int u] ∧ a ∈ ns ∧ b ∈ ns ∧ a ≠ b ∧ 0 ≤ s ∧ s < u ∧ u ≤ 1000000
def WishIn (ns : List Str) (t : D) : Prop := ∃ (a : Str) (p : D) (s u : Int), t = .tup [.str a, p, .int s, .int u] ∧ a ∈ ns ∧ p ∈ allDeeds ∧ 0 ≤ s ∧ s < u ∧ u ≤ 1000000
theorem span_ok {s u : Int} (h0 : 0 ≤ s) (h1 : s < u) (h2 : u ≤ 1000000) : spanB (.int s) (.int u) = true := by
  have e1 : betwB (.int s) 0 1000000 = true := by show (decide (0 ≤ s) && decide (s ≤ 1000000)) = true; rw [decide_eq_true h0, decide_eq_true (by omega)]; rfl
  have e2 : betwB (.int u) 0 1000000 = true := by show (decide (0 ≤ u) && decide (u ≤ 1000000)) = true; rw [decide_eq_true (by omega), decide_eq_true h2]; rfl
  have e3 : ltB (.int s) (.int u) = true := decide_eq_true h1
  unfold spanB
  rw [e1, e2, e3]
  rfl
section
variable {ns : List Str} {t : D} {o : Str}
end
theorem pop_perm {l : List Str} {i : Nat} {y : Str} (h : l[i]? = some y) : (y :: l.eraseIdx i).Perm l := by
  obtain ⟨hi, rfl⟩ := List.getElem?_eq_some_iff.mp h
  rw [List.eraseIdx_eq_take_drop_succ]
  refine List.perm_middle.symm.trans ?_
  rw [← List.drop_eq_getElem_cons hi, List.take_append_drop]
theorem wi_of {ns : List Str} (hn : ∀ x ∈ ns, nameB (.str x) = true) : ∀ {ws : List D}, (∀ t ∈ ws, WishIn ns t) → ∃ xs : List Wi, ws = xs.map Wi.d ∧ ∀ x ∈ xs, x.Ok ∧ x.a ∈ ns
  | [], _ => ⟨[], rfl, nofun⟩
  | t :: ws, h => by
    obtain ⟨xs, e, ok⟩ := wi_of hn fun t ht => h t (List.mem_cons_of_mem _ ht)
    obtain ⟨a, p, s, u, et, ha, hp, h0, h1, h2⟩ := h t (List.mem_cons_self ..)
    exact ⟨⟨a, p, s, u⟩ :: xs, by rw [et, e]; rfl, List.forall_mem_cons.mpr ⟨⟨⟨hn a ha, hp, h0, h1, h2⟩, ha⟩, ok⟩⟩
theorem ti_of {ns : List Str} (hn : ∀ x ∈ ns, nameB (.str x) = true) : ∀ {ts : List D}, (∀ t ∈ ts, TieIn ns t) → ∃ tis : List Ti, ts = tis.map Ti.d ∧ ∀ t ∈ tis, t.Ok ∧ t.a ∈ ns ∧ t.b ∈ ns
  | [], _ => ⟨[], rfl, nofun⟩
  | t :: ts, h => by
    obtain ⟨tis, e, ok⟩ := ti_of hn fun t ht => h t (List.mem_cons_of_mem _ ht)
    obtain ⟨a, b, s, u, et, ha, hb, ne, h0, h1, h2⟩ := h t (List.mem_cons_self ..)
    exact ⟨⟨a, b, s, u⟩ :: tis, by rw [et, e]; rfl, List.forall_mem_cons.mpr ⟨⟨⟨hn a ha, hn b hb, ne, h0, h1, h2⟩, ha, hb⟩, ok⟩⟩
theorem wi_names (xs : List Wi) : (xs.map Wi.d).map nm0 = xs.map (·.a) := by rw [List.map_map]; rfl
/-- names that a trust's names are among -/
def Among (ns : List Str) (ts : List Ti) (xs : List Wi) : Prop := (∀ t ∈ ts, t.a ∈ ns ∧ t.b ∈ ns) ∧ ∀ x ∈ xs, x.a ∈ ns
def wTrustG : WUn := fun o ds Q => ∃ (n : Nat) (m : Int), ds = [.int m] ∧ Un o n ∧ n + 1000 ≤ 100000 ∧ 1 ≤ m ∧ m ≤ 5 ∧ ∀ (oo : Str) (ts : List Ti) (xs : List Wi) (ns : List Str) o', TrOk oo ts xs → Among (oo :: ns) ts xs → ns.length ≤ 5 → ns.Nodup → oo ∉ ns → Un o' (n + 1000) → Q (.f (trustD oo ts xs)) o'
theorem mono__law_trust : MonoU2 wTrustG := fun o ds Q Q' i ⟨n, m, h1, h2, h3, h4, h5, q⟩ => ⟨n, m, h1, h2, h3, h4, h5, fun oo ts xs ns o' a b c d e f => i _ _ (q oo ts xs ns o' a b c d e f)⟩
theorem rngA_at {a : Int} {k i : Nat} {d : D} (h : ((List.range k).map fun j : Nat => D.int (a + (j : Int)))[i]? = some d) : i < k ∧ d = .int (a + (i : Int)) := by
  rw [List.getElem?_map] at h
  have hi : i < k := by
    rcases Nat.lt_or_ge i k with z | z
    · exact z
    · rw [List.getElem?_eq_none (by rw [List.length_range]; exact z)] at h
      cases h
  rw [List.getElem?_eq_getElem (by rw [List.length_range]; exact hi), List.getElem_range] at h
  cases h
  exact ⟨hi, rfl⟩
theorem ix_name {ns : List Str} {k : Int} {QD : D → Prop} (h0 : 0 ≤ k) (h1 : k < (ns.length : Int)) (h : ∀ y, ns[k.toNat]? = some y → QD (.str y)) : dIx (.lst (ns.map D.str)) (.int k) QD := by
  obtain ⟨d, e1, e2⟩ := atI_at (ds := ns.map D.str) h0 (by rw [List.length_map]; exact h1)
  obtain ⟨y, e3, rfl⟩ := at_map e2
  exact x_ixL e1 (h y e3)
theorem nodup_ne {ns : List Str} (nd : ns.Nodup) {i j : Nat} {a b : Str} (hi : ns[i]? = some a) (hj : ns[j]? = some b) (ne : i ≠ j) : a ≠ b := by
  obtain ⟨h1, rfl⟩ := List.getElem?_eq_some_iff.mp hi
  obtain ⟨h2, rfl⟩ := List.getElem?_eq_some_iff.mp hj
  rcases Nat.lt_or_gt_of_ne ne with l | l
  · exact List.pairwise_iff_getElem.mp nd i j h1 h2 l
  · exact (List.pairwise_iff_getElem.mp nd j i h2 h1 l).symm
theorem way_is {a b c : Int} {d : D} (h : d ∈ [D.int 0, .int a, .int b, .int c]) : ∃ w : Int, d = .int w := by
  rcases List.mem_cons.mp h with rfl | h
  · exact ⟨_, rfl⟩
  rcases List.mem_cons.mp h with rfl | h
  · exact ⟨_, rfl⟩
  rcases List.mem_cons.mp h with rfl | h
  · exact ⟨_, rfl⟩
  exact ⟨_, List.mem_singleton.mp h⟩
theorem tie_snoc {ns ts : List _} {t : D} (h : ∀ t ∈ ts, TieIn ns t) (g : TieIn ns t) : ∀ x ∈ ts ++ [t], TieIn ns x := fun x hx => by
  rcases List.mem_append.mp hx with hx | hx
  · exact h x hx
  · rw [List.mem_singleton.mp hx]
    exact g
theorem wish_snoc {ns ts : List _} {t : D} (h : ∀ t ∈ ts, WishIn ns t) (g : WishIn ns t) : ∀ x ∈ ts ++ [t], WishIn ns x := fun x hx => by
  rcases List.mem_append.mp hx with hx | hx
  · exact h x hx
  · rw [List.mem_singleton.mp hx]
    exact g
theorem turn_ne {a c n : Int} (a0 : 0 ≤ a) (a1 : a < n) (c0 : 0 ≤ c) (c1 : c < n - 1) : ((a + 1 + c) % n).toNat ≠ a.toNat := by
  by_cases h : a + 1 + c < n
  · rw [Int.emod_eq_of_lt (by omega) h]
    omega
  · have e : (a + 1 + c) % n = a + 1 + c - n := by
      have e1 : (a + 1 + c - n + n) % n = (a + 1 + c - n) % n := by simp
      rw [Int.emod_eq_of_lt (b := n) (a := a + 1 + c - n) (by omega) (by omega)] at e1
      rw [← e1]
      congr 1
      omega
    rw [e]
    omega
theorem erase_strs (l : List Str) (i : Nat) : (l.map D.str).eraseIdx i = (l.eraseIdx i).map D.str := by
  rw [List.eraseIdx_eq_take_drop_succ, List.eraseIdx_eq_take_drop_succ, List.map_append, List.map_take, List.map_drop]
theorem ok_trustg (T : Txt K mg) (c__law_draw : Cal P w K mg base 1 "_law_draw" (spW K tabs (liftU wLot))) (c__law_names : Cal P w K mg base 2 "_law_names" (spW K tabs (liftU wNames))) (c__law_span : Cal P w K mg base 2 "_law_span" (spW K tabs (liftU wSpanL)))
    (A : At K mg "_law_trust" s__law_trust ["pool", "most"]) : Cal P w K mg base 3 "_law_trust" (spW K tabs (liftU wTrustG)) := by
  refine A.of fun f fd F => fx_fnU F sc__law_trust (fun o ds Q ⟨n, m, h, _⟩ => by rw [h]; rfl) fun cdv A outer s H E TT P0 σ0 hcd hr => ⟨_, (gss_cons (gs_setE (i := 2) sc__law_trust.nd rfl (Or.inl rfl) (ge_callU c__law_names hr (by decide) rfl rfl rfl mono__law_names (pv 0) (gd_cons (ge_op opx_add (GE.of_pure gp_int) (ge_callU c__law_draw hr (by decide) rfl rfl rfl mono__law_draw (pv 0) (gd_cons (GE.of_pure (gp_var (pv 1))) gd_nil))) gd_nil)))
      (gss_cons (gs_setE (i := 3) sc__law_trust.nd rfl (Or.inl rfl) (ge_callU c__law_draw hr (by decide) rfl rfl rfl mono__law_draw (pv 0) (gd_cons (GE.of_pure gp_int) gd_nil)))
      (gss_cons (gs_setE (i := 4) sc__law_trust.nd rfl (Or.inl rfl) (ge_lstOD gd_nil))
      (gss_cons (gs_for PassesOwn.never rfl (gi_r2 rfl T.z_range (GD.ga (gd_cons (GE.of_pure gp_int) (gd_cons (ge_cbB1 cax_len (by rfl) T.z_len (by decide +kernel) (pv 2)) gd_nil)))) (gg_name (pg_name (i := 5) sc__law_trust.nd rfl (Or.inl rfl)) rfl)
      (gss_one (gs_if (gt_cmp opx_gt (ge_callU c__law_draw hr (by decide) rfl rfl rfl mono__law_draw (pv 0) (gd_cons (GE.of_pure gp_int) gd_nil)) (GE.of_pure gp_int) (nomark _))
      (gss_one (gs_append (pv 4) (gd_cons (ge_op opx_add (ge_tupD (gd_cons (ge_ix ixx (GE.of_pure (gp_var (pv 2))) (ge_callU c__law_draw hr (by decide) rfl rfl rfl mono__law_draw (pv 0) (gd_cons (GE.of_pure (gp_var (pv 5))) gd_nil)) (fun _ _ => rfl)) (gd_cons (GE.of_pure (gp_ix ixx (gp_var (pv 2)) (gp_var (pv 5)) (fun _ _ => rfl))) gd_nil))) (ge_callU c__law_span hr (by decide) rfl rfl rfl mono__law_span (pv 0) (gd_cons (ge_ix ixx (ge_lstD (gd_cons (GE.of_pure gp_int) (gd_cons (GE.of_pure gp_int) (gd_cons (GE.of_pure gp_int) (gd_cons (GE.of_pure (gp_op opx_mod (gp_var (pv 5)) gp_int)) gd_nil))))) (GE.of_pure (gp_var (pv 3))) (fun _ _ => rfl)) gd_nil))) gd_nil)))
      gss_nil)))
      (gss_cons (gs_for PassesOwn.never rfl (gi_r1 rfl T.z_range (GD.ga (gd_cons (ge_callU c__law_draw hr (by decide) rfl rfl rfl mono__law_draw (pv 0) (gd_cons (ge_op opx_sub (GE.of_pure gp_int) (ge_cbB1 cax_len (by rfl) T.z_len (by decide +kernel) (pv 4))) gd_nil)) gd_nil))) (gg_name (pg_name (i := 5) sc__law_trust.nd rfl (Or.inl rfl)) rfl)
      (gss_cons (gs_setE (i := 6) sc__law_trust.nd rfl (Or.inl rfl) (ge_callU c__law_draw hr (by decide) rfl rfl rfl mono__law_draw (pv 0) (gd_cons (ge_cbB1 cax_len (by rfl) T.z_len (by decide +kernel) (pv 2)) gd_nil)))
      (gss_cons (gs_setE (i := 7) sc__law_trust.nd rfl (Or.inl rfl) (ge_op opx_mod (ge_op opx_add (GE.of_pure (gp_op opx_add (gp_var (pv 6)) gp_int)) (ge_callU c__law_draw hr (by decide) rfl rfl rfl mono__law_draw (pv 0) (gd_cons (ge_op opx_sub (ge_cbB1 cax_len (by rfl) T.z_len (by decide +kernel) (pv 2)) (GE.of_pure gp_int)) gd_nil))) (ge_cbB1 cax_len (by rfl) T.z_len (by decide +kernel) (pv 2))))
      (gss_one (gs_append (pv 4) (gd_cons (ge_op opx_add (ge_tupD (gd_cons (GE.of_pure (gp_ix ixx (gp_var (pv 2)) (gp_var (pv 6)) (fun _ _ => rfl))) (gd_cons (GE.of_pure (gp_ix ixx (gp_var (pv 2)) (gp_var (pv 7)) (fun _ _ => rfl))) gd_nil))) (ge_callU c__law_span hr (by decide) rfl rfl rfl mono__law_span (pv 0) (gd_cons (ge_ix ixx (ge_lstD (gd_cons (GE.of_pure gp_int) (gd_cons (GE.of_pure gp_int) (gd_cons (GE.of_pure gp_int) (gd_cons (GE.of_pure (gp_op opx_mod (gp_var (pv 5)) gp_int)) gd_nil))))) (GE.of_pure (gp_var (pv 3))) (fun _ _ => rfl)) gd_nil))) gd_nil))))))
      (gss_cons (gs_setE (i := 8) sc__law_trust.nd rfl (Or.inl rfl) (ge_slN (GE.of_pure (gp_var (pv 2))) (go_some (GE.of_pure gp_int)) go_none))
      (gss_cons (gs_setE (i := 9) sc__law_trust.nd rfl (Or.inl rfl) (ge_lstOD gd_nil))
      (gss_cons (gs_for PassesOwn.never rfl (gi_r1 rfl T.z_range (GD.ga (gd_cons (ge_op opx_add (GE.of_pure gp_int) (ge_callU c__law_draw hr (by decide) rfl rfl rfl mono__law_draw (pv 0) (gd_cons (ge_cbB (cax_min2 rfl) (by rfl) T.z_min (by decide +kernel) (gd_cons (GE.of_pure gp_int) (gd_cons (ge_cbB1 cax_len (by rfl) T.z_len (by decide +kernel) (pv 8)) gd_nil))) gd_nil))) gd_nil))) (gg_name (pg_name (i := 5) sc__law_trust.nd rfl (Or.inl rfl)) rfl)
      (gss_cons (gs_setE (i := 10) sc__law_trust.nd rfl (Or.inl rfl) (ge_popD (pv 8) (gd_cons (ge_callU c__law_draw hr (by decide) rfl rfl rfl mono__law_draw (pv 0) (gd_cons (ge_cbB1 cax_len (by rfl) T.z_len (by decide +kernel) (pv 8)) gd_nil)) gd_nil)))
      (gss_cons (gs_setE (i := 11) sc__law_trust.nd rfl (Or.inl rfl) (ge_callU c__law_draw hr (by decide) rfl rfl rfl mono__law_draw (pv 0) (gd_cons (GE.of_pure gp_int) gd_nil)))
      (gss_cons (gs_setE (i := 12) sc__law_trust.nd rfl (Or.inl rfl) (ge_ix ixx (ge_lstD (gd_cons (ge_tupD (gd_cons (GE.of_pure gp_str) gd_nil)) (gd_cons (ge_tupD (gd_cons (GE.of_pure gp_str) gd_nil)) (gd_cons (ge_tupD (gd_cons (GE.of_pure gp_str) (gd_cons (GE.of_pure gp_str) gd_nil))) gd_nil)))) (ge_callU c__law_draw hr (by decide) rfl rfl rfl mono__law_draw (pv 0) (gd_cons (GE.of_pure gp_int) gd_nil)) (fun _ _ => rfl)))
      (gss_one (gs_append (pv 9) (gd_cons (ge_tupD (gd_cons (GE.of_pure (gp_var (pv 10))) (gd_cons (GE.of_pure (gp_var (pv 12))) (gd_cons (GE.of_pure (gp_var (pv 11))) (gd_cons (ge_op opx_add (GE.of_pure (gp_op opx_add (gp_var (pv 11)) gp_int)) (ge_callU c__law_draw hr (by decide) rfl rfl rfl mono__law_draw (pv 0) (gd_cons (GE.of_pure gp_int) gd_nil))) gd_nil))))) gd_nil)))))))
      (gss_one (gs_ret (ge_tupD (gd_cons (GE.of_pure (gp_ix ixx (gp_var (pv 2)) gp_int (fun _ _ => rfl))) (gd_cons (ge_cbT1 cax_tuple (by rfl) T.z_tuple (by decide +kernel) (pv 4)) (gd_cons (ge_cbT1 cax_tuple (by rfl) T.z_tuple (by decide +kernel) (pv 9)) gd_nil)))))))))))))), fun o ds Q ⟨n, m, h, u, hn, m1, m5, q⟩ => ?_⟩
  subst h
  refine x_start (e := [some (.own o), some (.f (.int m)), none, none, none, none, none, none, none, none, none, none, none]) rfl ?_
  walk_at "x"
  intro d1 o1 d10 d11 u1
  walk_at "x"
  refine ⟨_, _, rfl, u1, by omega, by omega, by omega, fun ns o2 hl hb nd u2 => ?_⟩
  walk_at "x"
  intro kind o3 k0 k1 u3
  walk_at "x"
  rw [List.length_map]
  refine ⟨_, _, rfl, ⟨by omega, by omega, by omega, by omega⟩, fun i e => ∃ (o' : O) (ts : List D) (x5 : Option Sl), Un o' (n + 102 + 4 * i) ∧ ts.length ≤ i ∧ (∀ t ∈ ts, TieIn ns t) ∧ e = [some (.own o'), some (.f (.int m)), some (.f (.lst (ns.map D.str))), some (.f (.int kind)), some (.own (.lst ts)), x5, none, none, none, none, none, none, none], ⟨o3, [], none, u3, Nat.le_refl _, nofun, rfl⟩, ?_, ?_⟩
  · rintro i d e hd ⟨o4, ts, x5, u4, htl, ht, rfl⟩
    obtain ⟨hi, rfl⟩ := rngA_at hd
    walk_at "x"
    intro c o5 c0 c1 u5
    walk_at "x"
    refine x_iteD (fun hc => ?_) (fun hc => ?_)
    · walk_at "x"
      intro c2 o6 c20 c21 u6
      walk_at "x"
      refine ix_name c20 (by omega) fun a ha => ?_
      walk_at "x"
      refine ix_name (by omega) (by omega) fun b hb2 => ?_
      walk_at "x"
      refine x_ixM k0 (by simpa using k1) fun dw hw => ?_
      obtain ⟨way, rfl⟩ := way_is hw
      walk_at "x"
      refine ⟨_, way, rfl, u6, by omega, fun s v o7 s0 sv vl u7 => ?_⟩
      walk_at "x"
      refine x_appE rfl (by omega) ?_
      refine ⟨o7, ts ++ [.tup [.str a, .str b, .int s, .int v]], _, u7.mono (by omega), by rw [List.length_append]; exact Nat.succ_le_succ htl, tie_snoc ht ⟨a, b, s, v, rfl, List.mem_of_getElem? ha, List.mem_of_getElem? hb2, nodup_ne nd ha hb2 (by omega), s0, sv, vl⟩, rfl⟩
    · walk_at "x"
      exact ⟨o5, ts, _, u5.mono (by omega), by omega, ht, rfl⟩
  rintro e ⟨o4, ts, x5, u4, htl, ht, rfl⟩
  rw [List.length_map, List.length_range] at htl u4
  walk_at "x"
  intro r o5 r0 r1 u5
  walk_at "x"
  refine ⟨fun i e => ∃ (o' : O) (ts' : List D) (x5 x6 x7 : Option Sl), Un o' (n + 150 + 4 * i) ∧ ts'.length ≤ ts.length + i ∧ (∀ t ∈ ts', TieIn ns t) ∧ e = [some (.own o'), some (.f (.int m)), some (.f (.lst (ns.map D.str))), some (.f (.int kind)), some (.own (.lst ts')), x5, x6, x7, none, none, none, none, none], ⟨o5, ts, _, _, _, u5.mono (by omega), Nat.le_refl _, ht, rfl⟩, ?_, ?_⟩
  · rintro i d e hd ⟨o6, ts', x5, x6, x7, u6, htl', ht', rfl⟩
    obtain ⟨hi, rfl⟩ := rng_at hd
    walk_at "x"
    rw [List.length_map]
    walk_at "x"
    intro one o7 n0 n1 u7
    walk_at "x"
    rw [List.length_map]
    walk_at "x"
    intro c o8 c0 c1 u8
    walk_at "x"
    rw [List.length_map]
    walk_at "x"
    refine ix_name n0 n1 fun a ha => ?_
    walk_at "x"
    refine ix_name (Int.emod_nonneg _ (by omega)) (Int.emod_lt_of_pos _ (by omega)) fun b hb2 => ?_
    walk_at "x"
    refine x_ixM k0 (by simpa using k1) fun dw hw => ?_
    obtain ⟨way, rfl⟩ := way_is hw
    walk_at "x"
    refine ⟨_, way, rfl, u8, by omega, fun s v o9 s0 sv vl u9 => ?_⟩
    walk_at "x"
    refine x_appE rfl (by omega) ?_
    refine ⟨o9, ts' ++ [.tup [.str a, .str b, .int s, .int v]], _, _, _, u9.mono (by omega), by rw [List.length_append]; exact Nat.succ_le_succ htl', tie_snoc ht' ⟨a, b, s, v, rfl, List.mem_of_getElem? ha, List.mem_of_getElem? hb2, nodup_ne nd ha hb2 (turn_ne n0 n1 c0 c1).symm, s0, sv, vl⟩, rfl⟩
  rintro e ⟨o6, ts', x5, x6, x7, u6, htl', ht', rfl⟩
  rw [List.length_map, List.length_range] at u6 htl'
  walk_at "x"
  obtain ⟨oo, nr, rfl⟩ : ∃ oo nr, ns = oo :: nr := by
    cases ns with
    | nil => exact absurd hl (by rw [List.length_nil]; omega)
    | cons a b => exact ⟨a, b, rfl⟩
  rw [List.length_cons] at hl
  rw [show Fx.cutD ((oo :: nr).map D.str) (some 1) none = nr.map D.str from cut_from (by decide) (by rw [List.length_map, List.length_cons]; omega), List.length_map]
  obtain ⟨mm, hmm, mm0, mm1, mm2⟩ : ∃ mm : Int, (if ((nr.length : Nat) : Int) < 6 then ((nr.length : Nat) : Int) else 6) = mm ∧ 0 < mm ∧ mm ≤ 6 ∧ mm ≤ nr.length := by
    refine ⟨_, rfl, ?_, ?_, ?_⟩ <;> split <;> omega
  rw [hmm]
  clear hmm
  walk_at "x"
  intro r2 o7 r20 r21 u7
  walk_at "x"
  refine ⟨fun i e => ∃ (o' : O) (left : List Str) (ws : List D) (x5 x10 x11 x12 : Option Sl), Un o' (n + 300 + 4 * i) ∧ (ws.map nm0 ++ left).Perm nr ∧ left.length + i = nr.length ∧ ws.length = i ∧ (∀ t ∈ ws, WishIn (oo :: nr) t) ∧ e = [some (.own o'), some (.f (.int m)), some (.f (.lst ((oo :: nr).map D.str))), some (.f (.int kind)), some (.own (.lst ts')), x5, x6, x7, some (.own (.lst (left.map D.str))), some (.own (.lst ws)), x10, x11, x12], ⟨o7, nr, [], _, _, _, _, u7.mono (by omega), .refl _, rfl, rfl, nofun, rfl⟩, ?_, ?_⟩
  · rintro i d e hd ⟨o8, left, ws, x5, x10, x11, x12, u8, pm, hll, hwl, hw, rfl⟩
    obtain ⟨hi, rfl⟩ := rng_at hd
    walk_at "x"
    rw [List.length_map]
    walk_at "x"
    intro c o9 c0 c1 u9
    walk_at "x"
    have hc : c.toNat < left.length := by omega
    have ha : left[c.toNat]? = some left[c.toNat] := List.getElem?_eq_getElem hc
    generalize left[c.toNat] = a at ha
    have pa := pop_perm ha
    have am : a ∈ nr := pm.mem_iff.mp (List.mem_append_right _ (List.mem_of_getElem? ha))
    refine ⟨c, left.map D.str, .str a, rfl, rfl, c0, by rw [List.length_map]; omega, by rw [List.getElem?_map, ha]; rfl, ?_⟩
    rw [erase_strs]
    walk_at "x"
    intro s o10 s0 s1 u10
    walk_at "x"
    intro dp o11 p0 p1 u11
    walk_at "x"
    refine x_ixM p0 p1 fun p hp => ?_
    have hp : p ∈ allDeeds := hp
    walk_at "x"
    intro g o12 g0 g1 u12
    walk_at "x"
    refine x_appE rfl (by omega) ?_
    refine ⟨o12, left.eraseIdx c.toNat, ws ++ [.tup [.str a, p, .int s, .int (s + 1 + g)]], _, _, _, _, u12.mono (by omega), ?_, ?_, by rw [List.length_append, hwl]; rfl, wish_snoc hw ⟨a, p, s, _, rfl, List.mem_cons_of_mem _ am, hp, s0, by omega, by omega⟩, rfl⟩
    · rw [List.map_append, List.append_assoc]
      exact (List.Perm.append_left _ pa).trans pm
    · rw [List.length_eraseIdx_of_lt hc]
      omega
  rintro e ⟨o8, left, ws, x5, x10, x11, x12, u8, pm, hll, hwl, hw, rfl⟩
  rw [List.length_map, List.length_range] at u8 hll hwl
  walk_at "x"
  refine x_ixL (d := .str oo) (L2.atI_nat (xs := (oo :: nr).map D.str) (j := 0) rfl) ?_
  walk_at "x"
  have wn := (pm.nodup_iff.mpr (List.nodup_cons.mp nd).2)
  obtain ⟨ys, rfl, yok⟩ := wi_of hb hw
  obtain ⟨tis, rfl, tok⟩ := ti_of hb ht'
  rw [wi_names] at wn pm
  rw [List.length_map] at hwl htl'
  have nd2 := List.nodup_cons.mp nd
  refine q oo tis ys nr o8 ⟨hb oo (List.mem_cons_self ..), fun t h => (tok t h).1, by omega, fun x h => (yok x h).1, by omega, by omega, (List.nodup_append.mp wn).1, fun x hx e => nd2.1 (pm.mem_iff.mp (List.mem_append_left _ (List.mem_map.mpr ⟨x, hx, e⟩)))⟩ ⟨fun t h => (tok t h).2, fun x h => (yok x h).2⟩ (by omega) nd2.2 nd2.1 (u8.mono (by omega))

end
end K75

namespace K75
open PySem PySem.Spec PyProof.Rows L2 Lk Evl Fx



local macro_rules | `(tactic| walk_at "sz") => `(tactic| first
  | exact Nat.le_of_ble_eq_true rfl
  | assumption
  | exact small_sz (Nat.le_of_ble_eq_true rfl)
  | (simp only [List.length_cons, List.length_nil, List.length_map, List.length_append]; first | omega | exact small_sz (by omega)))
local macro_rules | `(tactic| walk_at "x1") => `(tactic| first
  | with_reducible refine x_seq ?_
  | (with_reducible show wVar _ _ _); first | refine x_varF rfl ?_ | refine x_varO rfl ?_ | refine x_varV rfl ?_
  | with_reducible refine x_c ?_
  | with_reducible refine x_exf ?_
  | with_reducible refine x_excd ?_
  | (with_reducible show ∃ d1, Sl.cd (Sl.vw _) = some d1 ∧ _); refine x_excV rfl ?_
  | (with_reducible show ∃ d1, Sl.cd (Sl.own _) = some d1 ∧ _); refine x_excO rfl ?_
  | with_reducible refine x_binP ?_
  | with_reducible refine x_bin ?_
  | with_reducible refine x_adC ?_
  | with_reducible refine x_adN ?_
  | with_reducible refine x_lst ?_
  | with_reducible refine x_tup ?_
  | with_reducible refine x_lstO ?_
  | (with_reducible refine x_and (p := _ ≤ sizeLine) ?h ?_); (case h => walk_at "sz")
  | with_reducible refine x_callF ?_
  | with_reducible refine x_callL ?_
  | with_reducible refine x_listO ?_
  | (with_reducible show wCallU _ _ _ _ _); refine x_callU rfl ?_
  | with_reducible refine x_callV ?_
  | with_reducible refine x_join ?_
  | with_reducible refine x_waD ?_
  | with_reducible refine x_lc ?_
  | with_reducible refine x_lc2 ?_
  | with_reducible refine x_lenSets ?_
  | (with_reducible show wApp _ _ _ _); refine x_app rfl ?_
  | (with_reducible show wBinV _ _ _ _ _); refine x_binV rfl ?_
  | (with_reducible show wPopD _ _ _ _); refine x_popD rfl ?_
  | (with_reducible show wCatV _ _ _ _); refine x_catV rfl ?_
  | with_reducible refine x_slN2 ?_
  | with_reducible refine x_sortedSets ?_
  | with_reducible refine x_tplL ?_
  | with_reducible refine x_tplT ?_
  | with_reducible refine x_isB ?_
  | with_reducible refine x_r1 ?_
  | with_reducible refine x_r2 ?_
  | (with_reducible refine x_r1e ?h0 ?h1 ?_); (case h0 => omega); (case h1 => omega)
  | with_reducible refine x_iL ?_
  | with_reducible refine x_iT ?_
  | with_reducible refine x_iS ?_
  | with_reducible refine x_iE ?_
  | with_reducible refine x_iEe ?_
  | with_reducible refine x_yes ?_
  | with_reducible refine x_for ?_
  | (with_reducible show wLot _ [D.int _] _); (refine' x_lot (by assumption) ?h1 ?h2 ?h3 ?_); (case h1 => omega); (case h2 => first | decide | omega); (case h3 => first | decide | omega)
  | (with_reducible show ∃ o, _ = some (some (Sl.own o)) ∧ _); refine x_exO rfl ?_
  | with_reducible refine x_exo ?_
  | with_reducible refine x_ret ?_
  | with_reducible refine x_set ?_
  | with_reducible refine x_fin ?_
  | with_reducible refine x_fino ?_
  | (with_reducible refine x_and (p := _ < List.length _) ?h ?_); (case h => exact Nat.le_of_ble_eq_true rfl); (try dsimp only [List.set_cons_succ, List.set_cons_zero])
  | with_reducible refine x_next ?_
  | with_reducible refine x_retN ?_
  | with_reducible refine x_drop ?_
  | with_reducible refine x_asg ?_
  | (with_reducible refine x_gtp ?h ?_); (case h => rfl)
  | with_reducible refine x_gcons ?_
  | with_reducible refine x_gnil ?_
  | (with_reducible refine x_gn ?h ?_); (case h => exact Nat.le_of_ble_eq_true rfl); (try dsimp only [List.set_cons_succ, List.set_cons_zero])
  | with_reducible refine x_ifS ?_
  | with_reducible refine x_if ?_
  | with_reducible refine x_itT ?_
  | with_reducible refine x_itF ?_
  | with_reducible refine x_iteN ?_
  | with_reducible refine x_tru ?_
  | with_reducible refine x_tB ?_
  | with_reducible refine x_dtB ?_
  | with_reducible refine x_dtN ?_
  | with_reducible refine x_exb ?_
  | with_reducible refine x_exdb ?_
  | with_reducible refine x_tand ?_
  | with_reducible refine x_tor ?_
  | with_reducible refine x_tnot ?_
  | with_reducible refine x_and2 ?_
  | with_reducible refine x_or2 ?_
  | with_reducible refine x_not2 ?_
  | with_reducible refine x_chain ?_
  | with_reducible refine x_sub ?_
  | with_reducible refine x_addI ?_
  | (with_reducible refine x_addS ?h ?_); (case h => walk_at "sz")
  | (with_reducible refine x_addL ?h ?_); (case h => walk_at "sz")
  | (with_reducible refine x_addT ?h ?_); (case h => walk_at "sz")
  | with_reducible refine x_lt ?_
  | with_reducible refine x_le ?_
  | with_reducible refine x_gt ?_
  | with_reducible refine x_ge ?_
  | with_reducible refine x_ltS ?_
  | with_reducible refine x_eqI ?_
  | with_reducible refine x_neI ?_
  | with_reducible refine x_allSg ?_
  | with_reducible refine x_m0 ?_
  | with_reducible refine x_lstT ?_
  | with_reducible refine x_lstL ?_
  | with_reducible refine x_strB ?_
  | with_reducible refine x_strN ?_
  | with_reducible refine x_strS ?_
  | with_reducible refine x_isT ?_
  | with_reducible refine x_isI ?_
  | with_reducible refine x_neg ?_
  | with_reducible refine x_un ?_
  | (with_reducible refine x_pow ?h ?_); (case h => exact ⟨by decide, by decide +kernel⟩)
  | (with_reducible refine x_mod ?h ?_); (case h => first | decide | omega)
  | (with_reducible refine x_mul ?h ?_); (case h => exact mul_ok (by first | decide | omega) (by first | decide | omega))
  | (with_reducible refine x_div ?h ?_); (case h => exact div_ok (by first | decide | omega) (by first | decide | omega))
  | with_reducible refine x_ipA ?_
  | (with_reducible show wAugL _ _ _ _ _ _); refine x_augL rfl ?_
  | (with_reducible show wAug _ _ _ _ _); refine x_aug rfl ?_
  | (with_reducible show ∃ k' ds d, Sl.f (D.int _) = Sl.f (D.int k') ∧ _); refine x_augL1 rfl (by decide) rfl ?_
  | (with_reducible show ∃ k' j ds, Sl.f (D.int _) = Sl.f (D.int k') ∧ _ = some (some (Sl.own (O.lst ds))) ∧ ixN _ k' = some j ∧ _); refine x_setL1 rfl rfl ?_; (try dsimp only [List.set_cons_succ, List.set_cons_zero])
  | (with_reducible show ∃ ds j, _ = some (some (Sl.own (O.lst ds))) ∧ ixN _ _ = some j ∧ _); refine x_augL2 rfl rfl ?_; (try dsimp only [List.set_cons_succ, List.set_cons_zero])
  | (with_reducible show gSetL _ _ _ _ _); refine x_setL rfl ?_
  | (with_reducible show dIx (D.lst _) (D.int _) _); refine x_ixL rfl ?_
  | (with_reducible show dIx (D.tup _) (D.int _) _); refine x_ixT rfl ?_
  | with_reducible refine x_cb ?_
  | (with_reducible show wCB1 _ _ _ _); refine x_cb1 rfl rfl ?_
  | with_reducible refine x_fm ?_
  | with_reducible refine x_exl ?_
  | with_reducible refine x_ext ?_
  | with_reducible refine x_exs ?_
  | with_reducible refine x_exi ?_
  | with_reducible refine x_sl ?_
  | with_reducible refine x_slN ?_
  | with_reducible refine x_slS ?_
  | with_reducible refine x_frz ?_
  | with_reducible refine x_frL ?_
  | with_reducible refine x_revT ?_
  | with_reducible refine x_revL ?_
  | with_reducible refine x_splitO ?_
  | (with_reducible show wSlO _ _ _ _ _); refine x_slO rfl ?_
  | (with_reducible show ∃ ds2, _ = some (some (Sl.own (O.lst ds2))) ∧ _); refine x_exOl rfl ?_
  | with_reducible refine x_dictO ?_
  | with_reducible refine x_psC ?_
  | with_reducible refine x_psN ?_
  | with_reducible refine x_get ?_
  | (with_reducible show gSetSl _ _ _ _ _ _); refine x_setSl rfl ?_
  | with_reducible refine x_split ?_
  | with_reducible refine x_isN1 ?_
  | with_reducible refine x_isN0 rfl ?_
  | with_reducible refine x_iZ ?_
  | with_reducible refine x_zT ?_
  | with_reducible refine x_zL ?_
  | with_reducible refine x_stp ?_
  | with_reducible refine x_js ?_
  | with_reducible refine x_jsC ?_
  | with_reducible refine x_jsN ?_
  | with_reducible refine x_fmt ?_
  | with_reducible refine x_callFX ?_
  | (with_reducible refine x_glp ?h ?_); (case h => rfl)
  | with_reducible refine x_raiseR ?_
  | with_reducible refine x_row ?_
  | with_reducible refine x_lenL ?_
  | with_reducible refine x_lenT ?_
  | with_reducible refine x_lenD ?_
  | (with_reducible refine x_lenS ?h ?_); (case h => walk_at "sz")
  | with_reducible refine x_max ?_
  | with_reducible refine x_min ?_
  | with_reducible refine x_intI ?_
  | with_reducible refine x_intB ?_
  | (with_reducible refine x_isInt ?h ?_); (case h => first | assumption | exact part_ty (by assumption) | (intro _ hh; cases hh; done))
  | (with_reducible refine x_isBl ?h ?_); (case h => first | assumption | exact part_ty (by assumption) | (intro _ hh; cases hh; done))
  | (with_reducible refine x_isStr ?h ?_); (case h => first | assumption | exact part_ty (by assumption) | (intro _ hh; cases hh; done))
  | (with_reducible refine x_isTup ?h ?_); (case h => first | assumption | exact part_ty (by assumption) | (intro _ hh; cases hh; done))
  | (with_reducible refine x_isLst ?h ?_); (case h => first | assumption | exact part_ty (by assumption) | (intro _ hh; cases hh; done))
  | (with_reducible refine x_isDic ?h ?_); (case h => first | assumption | exact part_ty (by assumption) | (intro _ hh; cases hh; done))
  | (with_reducible refine x_itTe ?e ?_); (case e => rfl)
  | (with_reducible refine x_itFe ?e ?_); (case e => rfl)
  | with_reducible refine x_dnewO ?_
  | with_reducible refine x_dput ?_
  | with_reducible refine x_dix ?_
  | with_reducible refine x_sortedD ?_
  | with_reducible refine x_star ?_
  | with_reducible refine x_starT ?_
  | with_reducible refine x_frzD ?_
  | with_reducible refine x_sw ?_
  | with_reducible refine x_cnt ?_
  | with_reducible refine x_waC ?_
  | with_reducible refine x_waN ?_
  | with_reducible refine x_lenDD ?_
  | with_reducible refine x_allX ?_
  | (with_reducible show wFz _ _ _ _); refine x_fz rfl ?_
  | (with_reducible show wFzS _ _ _ _); refine x_fzS rfl ?_
  | (with_reducible show wFzO _ _ _ _); refine x_fzO rfl ?_
  | (with_reducible show wiK _ _ _); refine x_iK rfl ?_
  | (with_reducible show wiIt _ _ _); refine x_iIt rfl ?_
  | with_reducible refine x_iE1 ?_
  | with_reducible refine x_forR ?_
  | (with_reducible show wDIxV _ _ _ _); refine x_dixV rfl (cd_dicO _) ?_
  | (with_reducible show wDPop _ _ _ _); refine x_dpop rfl ?_
  | with_reducible refine x_pickO ?_
  | (with_reducible show wExt _ _ _ _); refine x_extO rfl ?_
  | with_reducible refine x_sortedR ?_
  | with_reducible refine x_sortedL ?_
  | with_reducible refine x_ixSt ?_
  | (with_reducible show wiVal _ _ _); refine x_iVal rfl ?_
  | with_reducible refine x_dictP ?_
  | with_reducible refine x_dictZip ?_
  | with_reducible refine x_revS ?_
  | with_reducible refine x_par ?_
  | (with_reducible show wIsiV _ _ _ _ _); refine x_isiV rfl ?_
  | ((with_reducible show _ ∧ _); refine And.intro (Nat.le_of_ble_eq_true rfl) ?_))
local macro_rules | `(tactic| walk_at "x") => `(tactic| repeat (walk_at "x1"))

section
variable {P : Program} {w : World} {K : PySem.W.Frag} {mg : Str → Option Value} {base : Heap} {tabs : List Addr}
/-! ### plans -/
theorem rising_pw : ∀ (l : List Str) (p : Str), risingS p l = true → (p :: l).Pairwise (fun a b : Str => a.cps.toList ≤ b.cps.toList)
  | [], p, _ => List.pairwise_singleton _ _
  | x :: r, p, h => by
    have h : (!ltCps x.cps.toList p.cps.toList && risingS x r) = true := h
    rw [Bool.and_eq_true, Bool.not_eq_true', ltCps_eq, decide_eq_false_iff_not, List.not_lt] at h
    have ih := rising_pw r x h.2
    refine List.Pairwise.cons (fun b hb => ?_) ih
    rcases List.mem_cons.mp hb with rfl | hb
    · exact h.1
    · exact List.le_trans h.1 ((List.pairwise_cons.mp ih).1 b hb)
theorem sorted_uniq {ys zs : List Str} (h1 : sortedS ys = true) (h2 : sortedS zs = true) (p : ys.Perm zs) : ys = zs := by
  have pw : ∀ l : List Str, sortedS l = true → l.Pairwise (fun a b : Str => a.cps.toList ≤ b.cps.toList) := fun l h => by
    cases l with
    | nil => exact .nil
    | cons x r => exact rising_pw r x h
  exact List.Perm.eq_of_pairwise (fun a b _ _ x y => TL.ext_tl (List.le_antisymm x y)) (pw _ h1) (pw _ h2) p
theorem perm_of_mem {ys zs : List Str} (h1 : ys.Nodup) (h2 : zs.Nodup) (h : ∀ y, y ∈ ys ↔ y ∈ zs) : ys.Perm zs := (List.perm_ext_iff_of_nodup h1 h2).mpr h
theorem eqB_lstr : ∀ xs ys : List Str, eqB (.lst (xs.map D.str)) (.lst (ys.map D.str)) = (xs == ys) := by
  intro xs ys
  show PyData.eqvAll (D.pyL (xs.map D.str)) (D.pyL (ys.map D.str)) = _
  induction xs generalizing ys with
  | nil =>
    cases ys with
    | nil => show PyData.eqvAll [] [] = true; unfold PyData.eqvAll; rfl
    | cons y ys => show PyData.eqvAll [] (PyData.str y :: D.pyL (ys.map D.str)) = false; unfold PyData.eqvAll; rfl
  | cons x xs ih =>
    cases ys with
    | nil => show PyData.eqvAll (PyData.str x :: D.pyL (xs.map D.str)) [] = false; unfold PyData.eqvAll; rfl
    | cons y ys =>
      show PyData.eqvAll (PyData.str x :: D.pyL (xs.map D.str)) (PyData.str y :: D.pyL (ys.map D.str)) = ((x == y) && (xs == ys))
      unfold PyData.eqvAll
      rw [ih]
      simp [PyData.eqv]
def risB (hs : List Str) : Bool := sortedS hs && decide hs.Nodup
theorem ris_ne {hs ys : List Str} (n : ys.Nodup) (s : sortedS ys = true) (m : ∀ y, y ∈ ys ↔ y ∈ hs) : (hs == ys) = risB hs := by
  cases h : risB hs with
  | true =>
    obtain ⟨h1, h2⟩ := Bool.and_eq_true_iff.mp (show (sortedS hs && decide hs.Nodup) = true from h)
    rw [sorted_uniq h1 s (perm_of_mem (of_decide_eq_true h2) n fun y => (m y).symm), beq_self_eq_true]
  | false =>
    refine beq_false_of_ne fun e => ?_
    subst e
    rw [show risB hs = (sortedS hs && decide hs.Nodup) from rfl, s, decide_eq_true n] at h
    cases h
def planV (oo : Str) (ts : List Ti) (xs : List Wi) (rs : List Rw) : Bool := rs.all formB && ((risB (rs.map (·.h)) && !(rs.map (·.h)).contains oo) && (rs.all (fun r => tieV ts r && giverV oo rs r) && xs.all (fun x => grantV x rs)))
theorem all_map_id {α : Type} {f : α → Bool} {l : List α} : (l.map f).all id = l.all f := by rw [List.all_map]; rfl
theorem hs_str {rs : List Rw} (h : ∀ r ∈ rs, r.W) : ∀ x ∈ rs.map (·.h), PyData.strOk x = true := fun x hx => by
  obtain ⟨y, hy, rfl⟩ := List.mem_map.mp hx
  exact (h y hy).h
def wPlan : WFn := fun ds Q => ∃ (oo : Str) (ts : List Ti) (xs : List Wi) (rs : List Rw), ds = [trustD oo ts xs, .tup (rs.map Rw.d)] ∧ TrOk oo ts xs ∧ (∀ r ∈ rs, r.W) ∧ rs.length ≤ 60 ∧ Q (.f (.bl (planV oo ts xs rs)))
theorem mono_is_plan : MonoF wPlan := fun ds Q Q' i ⟨oo, ts, ws, rs, h1, h2, h3, h4, q⟩ => ⟨oo, ts, ws, rs, h1, h2, h3, h4, i _ q⟩
theorem ok_plan (T : Txt K mg) (c__is_planned : Cal P w K mg base 6 "_is_planned" (spW K tabs (liftF wPlanned))) (c__has_tie : Cal P w K mg base 1 "_has_tie" (spW K tabs (liftF wHasTie))) (c__has_giver : Cal P w K mg base 3 "_has_giver" (spW K tabs (liftF wHasGiver)))
    (c__is_granted : Cal P w K mg base 1 "_is_granted" (spW K tabs (liftF wGranted))) (A : At K mg "is_plan" s_is_plan ["trust", "thing"]) : Cal P w K mg base 7 "is_plan" (spW K tabs (liftF wPlan)) := by
  refine A.of fun f fd F => fx_fnF F sc_is_plan (fun ds Q ⟨_, _, _, _, h, _⟩ => by rw [h]; rfl) fun cdv A outer s H E TT P0 σ0 hcd hr => ⟨_, (gss_cons (gs_if (GW.gt (gw_or (gt_not (gt_tru (ge_cbB cax_isi (by rfl) T.z_isinstance (by decide +kernel) (gd_cons (GE.of_pure (gp_var (pv 1))) (gd_cons (GE.of_pure (gp_ty (n := "tuple") (by rfl) T.z_tuple (by decide +kernel))) gd_nil))))) (gw_or1 (gt_not (gt_tru (ge_cbB (cax_all rfl) (by rfl) T.z_all (by decide +kernel) (gd_cons (ge_frz (ge_lcR (own := [("part", 2)]) (t := .name 2) rfl sc_is_plan.nd (gi_tup (GE.of_pure (gp_var (pv 1)))) (blkOk_by (own := [("part", 2)]) (N := ["trust", "thing", "part", "holders", "row", "wish"]) (sc := defScope s_is_plan) (by decide +kernel)) (fun _ _ _ _ _ => (pg_name (i := 2) sc_is_plan.nd rfl (Or.inl rfl))) (fun _ _ _ _ _ => (ge_callF c__is_planned hr (by decide) rfl rfl rfl mono__is_planned (gd_cons (GE.of_pure (gp_var (pv 2))) gd_nil))) (by decide) (mem1 rfl) (mem1 (Nat.le_of_ble_eq_true rfl)))) gd_nil)))))))
      (gss_one (gs_ret (GE.of_pure gp_bl)))
      gss_nil)
      (gss_cons (gs_lcFR (i := 3) (own := [("row", 4)]) (t := .name 4) rfl sc_is_plan.nd rfl rfl (sw_true rfl rfl rfl (by decide +kernel)) (gi_tup (GE.of_pure (gp_var (pv 1)))) (blkOk_by (own := [("row", 4)]) (N := ["trust", "thing", "part", "holders", "row", "wish"]) (sc := defScope s_is_plan) (by decide +kernel)) (fun _ _ _ _ _ => (pg_name (i := 4) sc_is_plan.nd rfl (Or.inl rfl))) (fun _ _ _ _ _ => (GE.of_pure (gp_ix ixx (gp_var (pv 4)) gp_int (fun _ _ => rfl)))) (by decide) (mem1 rfl) (mem1 (Nat.le_of_ble_eq_true rfl)))
      (gss_cons (gs_if (GW.gt (gw_or (gt_cmp (opx_ne hr.units) (GE.of_pure (gp_var (pv 3))) (ge_sortedSets rfl (by rfl) T.z_sorted (by rfl) T.z_set (GE.of_pure (gp_var (pv 3)))) (nomark _)) (gw_or1 (gt_cmpP (opx_in hr.u65) (gp_ix ixx (gp_var (pv 0)) (gp_k T.g_OWNER rfl) (fun _ _ => rfl)) (gp_var (pv 3)) (by rfl)))))
      (gss_one (gs_ret (GE.of_pure gp_bl)))
      gss_nil)
      (gss_cons (gs_if (gt_not (gt_tru (ge_cbB (cax_all rfl) (by rfl) T.z_all (by decide +kernel) (gd_cons (ge_frz (ge_lcR (own := [("row", 4)]) (t := .name 4) rfl sc_is_plan.nd (gi_tup (GE.of_pure (gp_var (pv 1)))) (blkOk_by (own := [("row", 4)]) (N := ["trust", "thing", "part", "holders", "row", "wish"]) (sc := defScope s_is_plan) (by decide +kernel)) (fun _ _ _ _ _ => (pg_name (i := 4) sc_is_plan.nd rfl (Or.inl rfl))) (fun _ _ _ _ _ => (ge_and (ge_callF c__has_tie hr (by decide) rfl rfl rfl mono__has_tie (gd_cons (GE.of_pure (gp_var (pv 0))) (gd_cons (GE.of_pure (gp_var (pv 4))) gd_nil))) (ge_one (ge_callF c__has_giver hr (by decide) rfl rfl rfl mono__has_giver (gd_cons (GE.of_pure (gp_var (pv 0))) (gd_cons (GE.of_pure (gp_var (pv 1))) (gd_cons (GE.of_pure (gp_var (pv 4))) gd_nil))))))) (by decide) (mem1 rfl) (mem1 (Nat.le_of_ble_eq_true rfl)))) gd_nil))))
      (gss_one (gs_ret (GE.of_pure gp_bl)))
      gss_nil)
      (gss_one (gs_ret (ge_cbB (cax_all rfl) (by rfl) T.z_all (by decide +kernel) (gd_cons (ge_frz (ge_lcR (own := [("wish", 5)]) (t := .name 5) rfl sc_is_plan.nd (gi_tup (GE.of_pure (gp_ix ixx (gp_var (pv 0)) (gp_k T.g_WISHES rfl) (fun _ _ => rfl)))) (blkOk_by (own := [("wish", 5)]) (N := ["trust", "thing", "part", "holders", "row", "wish"]) (sc := defScope s_is_plan) (by decide +kernel)) (fun _ _ _ _ _ => (pg_name (i := 5) sc_is_plan.nd rfl (Or.inl rfl))) (fun _ _ _ _ _ => (ge_callF c__is_granted hr (by decide) rfl rfl rfl mono__is_granted (gd_cons (GE.of_pure (gp_var (pv 1))) (gd_cons (GE.of_pure (gp_var (pv 5))) gd_nil)))) (by decide) (mem1 rfl) (mem1 (Nat.le_of_ble_eq_true rfl)))) gd_nil)))))))), fun ds Q ⟨oo, ts, xs, rs, e, hp, hrs, hl, q⟩ => ?_⟩
  subst e
  have hl' : (rs.map Rw.d).length ≤ 60 := by rw [List.length_map]; exact hl
  refine x_start (e := [some (.f (.tup [.str oo, .tup (ts.map Ti.d), .tup (xs.map Wi.d)])), some (.f (.tup (rs.map Rw.d))), none, none, none, none]) rfl ?_
  unfold planV at q
  walk_at "x"
  refine ⟨by omega, fun i acc e => acc = ((rs.take i).map formB).map D.bl ∧ ∃ x2, e = ([some (.f (.tup [.str oo, .tup (ts.map Ti.d), .tup (xs.map Wi.d)])), some (.f (.tup (rs.map Rw.d))), none, none, none, none] : Fx.Env).set 2 x2, ⟨rfl, none, rfl⟩, ?_, ?_⟩
  · rintro i d acc e hd ⟨rfl, x2, rfl⟩
    rw [List.getElem?_map] at hd
    obtain ⟨r, hr0, rfl⟩ := Option.map_eq_some_iff.mp hd
    refine ⟨_, rfl, ?_⟩
    dsimp only [List.map_cons, List.map_nil, wipeE, setE, Tgt.js, List.set_cons_zero, List.set_cons_succ]
    walk_at "x"
    refine ⟨r, rfl, hrs r (List.mem_of_getElem? hr0), ?_⟩
    walk_at "x"
    exact ⟨by rw [take_snoc hr0, List.map_append, List.map_append]; rfl, _, rfl⟩
  rintro acc e ⟨rfl, x2, rfl⟩
  rw [List.length_map, List.take_length]
  dsimp only [List.map_cons, List.map_nil, wipeE, List.set_cons_zero, List.set_cons_succ]
  walk_at "x"
  refine x_all ?_
  rw [all_map_id]
  cases h1 : rs.all formB with
  | false =>
    rw [h1, Bool.false_and] at q
    walk_at "x"
    exact q
  | true =>
    rw [h1, Bool.true_and] at q
    walk_at "x"
    try dsimp only [List.map_cons, List.map_nil, wipeE, List.set_cons_zero, List.set_cons_succ]
    refine ⟨by omega, fun i acc e => acc = ((rs.take i).map (·.h)).map D.str ∧ ∃ x4, e = ([some (.f (.tup [.str oo, .tup (ts.map Ti.d), .tup (xs.map Wi.d)])), some (.f (.tup (rs.map Rw.d))), none, none, none, none] : Fx.Env).set 4 x4, ⟨rfl, none, rfl⟩, ?_, ?_⟩
    · rintro i d acc e hd ⟨rfl, x4, rfl⟩
      rw [List.getElem?_map] at hd
      obtain ⟨y, hy, rfl⟩ := Option.map_eq_some_iff.mp hd
      refine ⟨_, rfl, ?_⟩
      dsimp only [List.map_cons, List.map_nil, wipeE, setE, Tgt.js, List.set_cons_zero, List.set_cons_succ]
      unfold Rw.d
      walk_at "x"
      exact ⟨by rw [take_snoc hy, List.map_append, List.map_append]; rfl, _, rfl⟩
    rintro acc e ⟨rfl, x4, rfl⟩
    rw [List.length_map, List.take_length]
    dsimp only [List.map_cons, List.map_nil, wipeE, List.set_cons_zero, List.set_cons_succ]
    have sok := hs_str hrs
    have lok := okPy_strs sok
    have hl2 : (rs.map (·.h)).length ≤ 60 := by rw [List.length_map]; exact hl
    generalize ehs : rs.map (·.h) = hs at q sok lok hl2
    walk_at "x"
    refine ⟨hs, rfl, Nat.lt_of_le_of_lt (dst_le fun _ h => h) (show hs.length < 64 by omega), by omega, fun ys n2 s2 mm => ?_⟩
    walk_at "x"
    have yok : okPy (.lst (ys.map D.str)) = true := okPy_strs fun y hy => sok y ((mm y).mp hy)
    refine x_neD lok yok ?_
    rw [eqB_lstr, ris_ne n2 s2 mm]
    cases h2 : risB hs with
    | false =>
      rw [h2, Bool.false_and, Bool.false_and] at q
      walk_at "x"
      exact q
    | true =>
    rw [h2, Bool.true_and] at q
    walk_at "x"
    refine x_inL (okPy_str (name_cp hp.hoo)) lok ?_
    rw [mem_strs]
    cases h3 : hs.contains oo with
    | true =>
      rw [h3, Bool.not_true, Bool.false_and] at q
      walk_at "x"
      exact q
    | false =>
    rw [h3, Bool.not_false, Bool.true_and] at q
    walk_at "x"
    try dsimp only [List.map_cons, List.map_nil, wipeE, List.set_cons_zero, List.set_cons_succ]
    refine ⟨by omega, fun i acc e => acc = ((rs.take i).map (fun r => tieV ts r && giverV oo rs r)).map D.bl ∧ ∃ x4, e = (([some (.f (.tup [.str oo, .tup (ts.map Ti.d), .tup (xs.map Wi.d)])), some (.f (.tup (rs.map Rw.d))), none, none, none, none] : Fx.Env).set 3 (some (.f (.lst (hs.map D.str))))).set 4 x4, ⟨rfl, none, rfl⟩, ?_, ?_⟩
    · rintro i d acc e hd ⟨rfl, x4, rfl⟩
      rw [List.getElem?_map] at hd
      obtain ⟨r, hr0, rfl⟩ := Option.map_eq_some_iff.mp hd
      have rw_ := hrs r (List.mem_of_getElem? hr0)
      refine ⟨_, rfl, ?_⟩
      dsimp only [List.map_cons, List.map_nil, wipeE, setE, Tgt.js, List.set_cons_zero, List.set_cons_succ]
      walk_at "x"
      refine ⟨oo, ts, xs, r, rfl, hp, rw_, ?_⟩
      cases h4 : tieV ts r with
      | false =>
        walk_at "x"
        exact ⟨by rw [take_snoc hr0, List.map_append, List.map_append]; show _ = _ ++ [D.bl (tieV ts r && giverV oo rs r)]; rw [h4]; rfl, _, rfl⟩
      | true =>
        walk_at "x"
        refine ⟨oo, ts, xs, rs, r, rfl, hp, hrs, by omega, rw_, ?_⟩
        walk_at "x"
        exact ⟨by rw [take_snoc hr0, List.map_append, List.map_append]; show _ = _ ++ [D.bl (tieV ts r && giverV oo rs r)]; rw [h4]; rfl, _, rfl⟩
    rintro acc e ⟨rfl, x4, rfl⟩
    rw [List.length_map, List.take_length]
    dsimp only [List.map_cons, List.map_nil, wipeE, List.set_cons_zero, List.set_cons_succ]
    walk_at "x"
    refine x_all ?_
    rw [all_map_id]
    cases h5 : rs.all (fun r => tieV ts r && giverV oo rs r) with
    | false =>
      rw [h5, Bool.false_and] at q
      walk_at "x"
      exact q
    | true =>
    rw [h5, Bool.true_and] at q
    walk_at "x"
    try dsimp only [List.map_cons, List.map_nil, wipeE, List.set_cons_zero, List.set_cons_succ]
    have hx6 := hp.x6
    refine ⟨by rw [List.length_map]; omega, fun i acc e => acc = ((xs.take i).map (fun x => grantV x rs)).map D.bl ∧ ∃ x5, e = (([some (.f (.tup [.str oo, .tup (ts.map Ti.d), .tup (xs.map Wi.d)])), some (.f (.tup (rs.map Rw.d))), none, none, none, none] : Fx.Env).set 3 (some (.f (.lst (hs.map D.str))))).set 5 x5, ⟨rfl, none, rfl⟩, ?_, ?_⟩
    · rintro i d acc e hd ⟨rfl, x5, rfl⟩
      rw [List.getElem?_map] at hd
      obtain ⟨x, hx0, rfl⟩ := Option.map_eq_some_iff.mp hd
      refine ⟨_, rfl, ?_⟩
      dsimp only [List.map_cons, List.map_nil, wipeE, setE, Tgt.js, List.set_cons_zero, List.set_cons_succ]
      walk_at "x"
      refine ⟨rs, x, rfl, hp.hxs x (List.mem_of_getElem? hx0), hrs, ?_⟩
      walk_at "x"
      exact ⟨by rw [take_snoc hx0, List.map_append, List.map_append]; rfl, _, rfl⟩
    rintro acc e ⟨rfl, x5, rfl⟩
    rw [List.length_map, List.take_length]
    dsimp only [List.map_cons, List.map_nil, wipeE, List.set_cons_zero, List.set_cons_succ]
    walk_at "x"
    refine x_all ?_
    rw [all_map_id]
    walk_at "x"
    exact q

end
end K75

namespace K75
open PySem PySem.Spec PyProof.Rows L2 Lk Evl Fx



local macro_rules | `(tactic| walk_at "sz") => `(tactic| first
  | exact Nat.le_of_ble_eq_true rfl
  | assumption
  | exact small_sz (Nat.le_of_ble_eq_true rfl)
  | (simp only [List.length_cons, List.length_nil, List.length_map, List.length_append]; first | omega | exact small_sz (by omega)))
local macro_rules | `(tactic| walk_at "x1") => `(tactic| first
  | with_reducible refine x_seq ?_
  | (with_reducible show wVar _ _ _); first | refine x_varF rfl ?_ | refine x_varO rfl ?_ | refine x_varV rfl ?_
  | with_reducible refine x_c ?_
  | with_reducible refine x_exf ?_
  | with_reducible refine x_excd ?_
  | (with_reducible show ∃ d1, Sl.cd (Sl.vw _) = some d1 ∧ _); refine x_excV rfl ?_
  | (with_reducible show ∃ d1, Sl.cd (Sl.own _) = some d1 ∧ _); refine x_excO rfl ?_
  | with_reducible refine x_binP ?_
  | with_reducible refine x_bin ?_
  | with_reducible refine x_adC ?_
  | with_reducible refine x_adN ?_
  | with_reducible refine x_lst ?_
  | with_reducible refine x_tup ?_
  | with_reducible refine x_lstO ?_
  | (with_reducible refine x_and (p := _ ≤ sizeLine) ?h ?_); (case h => walk_at "sz")
  | with_reducible refine x_callF ?_
  | with_reducible refine x_callL ?_
  | with_reducible refine x_listO ?_
  | (with_reducible show wCallU _ _ _ _ _); refine x_callU rfl ?_
  | with_reducible refine x_callV ?_
  | with_reducible refine x_join ?_
  | with_reducible refine x_waD ?_
  | with_reducible refine x_lc ?_
  | with_reducible refine x_lc2 ?_
  | with_reducible refine x_lenSets ?_
  | (with_reducible show wApp _ _ _ _); refine x_app rfl ?_
  | (with_reducible show wBinV _ _ _ _ _); refine x_binV rfl ?_
  | (with_reducible show wPopD _ _ _ _); refine x_popD rfl ?_
  | (with_reducible show wCatV _ _ _ _); refine x_catV rfl ?_
  | with_reducible refine x_slN2 ?_
  | with_reducible refine x_sortedSets ?_
  | with_reducible refine x_tplL ?_
  | with_reducible refine x_tplT ?_
  | with_reducible refine x_isB ?_
  | with_reducible refine x_r1 ?_
  | with_reducible refine x_r2 ?_
  | (with_reducible refine x_r1e ?h0 ?h1 ?_); (case h0 => omega); (case h1 => omega)
  | with_reducible refine x_iL ?_
  | with_reducible refine x_iT ?_
  | with_reducible refine x_iS ?_
  | with_reducible refine x_iE ?_
  | with_reducible refine x_iEe ?_
  | with_reducible refine x_yes ?_
  | with_reducible refine x_for ?_
  | (with_reducible show wLot _ [D.int _] _); (refine' x_lot (by assumption) ?h1 ?h2 ?h3 ?_); (case h1 => omega); (case h2 => first | decide | omega); (case h3 => first | decide | omega)
  | (with_reducible show ∃ o, _ = some (some (Sl.own o)) ∧ _); refine x_exO rfl ?_
  | with_reducible refine x_exo ?_
  | with_reducible refine x_ret ?_
  | with_reducible refine x_set ?_
  | with_reducible refine x_fin ?_
  | with_reducible refine x_fino ?_
  | (with_reducible refine x_and (p := _ < List.length _) ?h ?_); (case h => exact Nat.le_of_ble_eq_true rfl); (try dsimp only [List.set_cons_succ, List.set_cons_zero])
  | with_reducible refine x_next ?_
  | with_reducible refine x_retN ?_
  | with_reducible refine x_drop ?_
  | with_reducible refine x_asg ?_
  | (with_reducible refine x_gtp ?h ?_); (case h => rfl)
  | with_reducible refine x_gcons ?_
  | with_reducible refine x_gnil ?_
  | (with_reducible refine x_gn ?h ?_); (case h => exact Nat.le_of_ble_eq_true rfl); (try dsimp only [List.set_cons_succ, List.set_cons_zero])
  | with_reducible refine x_ifS ?_
  | with_reducible refine x_if ?_
  | with_reducible refine x_itT ?_
  | with_reducible refine x_itF ?_
  | with_reducible refine x_iteN ?_
  | with_reducible refine x_tru ?_
  | with_reducible refine x_tB ?_
  | with_reducible refine x_dtB ?_
  | with_reducible refine x_dtN ?_
  | with_reducible refine x_exb ?_
  | with_reducible refine x_exdb ?_
  | with_reducible refine x_tand ?_
  | with_reducible refine x_tor ?_
  | with_reducible refine x_tnot ?_
  | with_reducible refine x_and2 ?_
  | with_reducible refine x_or2 ?_
  | with_reducible refine x_not2 ?_
  | with_reducible refine x_chain ?_
  | with_reducible refine x_sub ?_
  | with_reducible refine x_addI ?_
  | (with_reducible refine x_addS ?h ?_); (case h => walk_at "sz")
  | (with_reducible refine x_addL ?h ?_); (case h => walk_at "sz")
  | (with_reducible refine x_addT ?h ?_); (case h => walk_at "sz")
  | with_reducible refine x_lt ?_
  | with_reducible refine x_le ?_
  | with_reducible refine x_gt ?_
  | with_reducible refine x_ge ?_
  | with_reducible refine x_ltS ?_
  | with_reducible refine x_eqI ?_
  | with_reducible refine x_neI ?_
  | with_reducible refine x_allSg ?_
  | with_reducible refine x_m0 ?_
  | with_reducible refine x_lstT ?_
  | with_reducible refine x_lstL ?_
  | with_reducible refine x_strB ?_
  | with_reducible refine x_strN ?_
  | with_reducible refine x_strS ?_
  | with_reducible refine x_isT ?_
  | with_reducible refine x_isI ?_
  | with_reducible refine x_neg ?_
  | with_reducible refine x_un ?_
  | (with_reducible refine x_pow ?h ?_); (case h => exact ⟨by decide, by decide +kernel⟩)
  | (with_reducible refine x_mod ?h ?_); (case h => first | decide | omega)
  | (with_reducible refine x_mul ?h ?_); (case h => exact mul_ok (by first | decide | omega) (by first | decide | omega))
  | (with_reducible refine x_div ?h ?_); (case h => exact div_ok (by first | decide | omega) (by first | decide | omega))
  | with_reducible refine x_ipA ?_
  | (with_reducible show wAugL _ _ _ _ _ _); refine x_augL rfl ?_
  | (with_reducible show wAug _ _ _ _ _); refine x_aug rfl ?_
  | (with_reducible show ∃ k' ds d, Sl.f (D.int _) = Sl.f (D.int k') ∧ _); refine x_augL1 rfl (by decide) rfl ?_
  | (with_reducible show ∃ k' j ds, Sl.f (D.int _) = Sl.f (D.int k') ∧ _ = some (some (Sl.own (O.lst ds))) ∧ ixN _ k' = some j ∧ _); refine x_setL1 rfl rfl ?_; (try dsimp only [List.set_cons_succ, List.set_cons_zero])
  | (with_reducible show ∃ ds j, _ = some (some (Sl.own (O.lst ds))) ∧ ixN _ _ = some j ∧ _); refine x_augL2 rfl rfl ?_; (try dsimp only [List.set_cons_succ, List.set_cons_zero])
  | (with_reducible show gSetL _ _ _ _ _); refine x_setL rfl ?_
  | (with_reducible show dIx (D.lst _) (D.int _) _); refine x_ixL rfl ?_
  | (with_reducible show dIx (D.tup _) (D.int _) _); refine x_ixT rfl ?_
  | with_reducible refine x_cb ?_
  | (with_reducible show wCB1 _ _ _ _); refine x_cb1 rfl rfl ?_
  | with_reducible refine x_fm ?_
  | with_reducible refine x_exl ?_
  | with_reducible refine x_ext ?_
  | with_reducible refine x_exs ?_
  | with_reducible refine x_exi ?_
  | with_reducible refine x_sl ?_
  | with_reducible refine x_slN ?_
  | with_reducible refine x_slS ?_
  | with_reducible refine x_frz ?_
  | with_reducible refine x_frL ?_
  | with_reducible refine x_revT ?_
  | with_reducible refine x_revL ?_
  | with_reducible refine x_splitO ?_
  | (with_reducible show wSlO _ _ _ _ _); refine x_slO rfl ?_
  | (with_reducible show ∃ ds2, _ = some (some (Sl.own (O.lst ds2))) ∧ _); refine x_exOl rfl ?_
  | with_reducible refine x_dictO ?_
  | with_reducible refine x_psC ?_
  | with_reducible refine x_psN ?_
  | with_reducible refine x_get ?_
  | (with_reducible show gSetSl _ _ _ _ _ _); refine x_setSl rfl ?_
  | with_reducible refine x_split ?_
  | with_reducible refine x_isN1 ?_
  | with_reducible refine x_isN0 rfl ?_
  | with_reducible refine x_iZ ?_
  | with_reducible refine x_zT ?_
  | with_reducible refine x_zL ?_
  | with_reducible refine x_stp ?_
  | with_reducible refine x_js ?_
  | with_reducible refine x_jsC ?_
  | with_reducible refine x_jsN ?_
  | with_reducible refine x_fmt ?_
  | with_reducible refine x_callFX ?_
  | (with_reducible refine x_glp ?h ?_); (case h => rfl)
  | with_reducible refine x_raiseR ?_
  | with_reducible refine x_row ?_
  | with_reducible refine x_lenL ?_
  | with_reducible refine x_lenT ?_
  | with_reducible refine x_lenD ?_
  | (with_reducible refine x_lenS ?h ?_); (case h => walk_at "sz")
  | with_reducible refine x_max ?_
  | with_reducible refine x_min ?_
  | with_reducible refine x_intI ?_
  | with_reducible refine x_intB ?_
  | (with_reducible refine x_isInt ?h ?_); (case h => first | assumption | exact part_ty (by assumption) | (intro _ hh; cases hh; done))
  | (with_reducible refine x_isBl ?h ?_); (case h => first | assumption | exact part_ty (by assumption) | (intro _ hh; cases hh; done))
  | (with_reducible refine x_isStr ?h ?_); (case h => first | assumption | exact part_ty (by assumption) | (intro _ hh; cases hh; done))
  | (with_reducible refine x_isTup ?h ?_); (case h => first | assumption | exact part_ty (by assumption) | (intro _ hh; cases hh; done))
  | (with_reducible refine x_isLst ?h ?_); (case h => first | assumption | exact part_ty (by assumption) | (intro _ hh; cases hh; done))
  | (with_reducible refine x_isDic ?h ?_); (case h => first | assumption | exact part_ty (by assumption) | (intro _ hh; cases hh; done))
  | (with_reducible refine x_itTe ?e ?_); (case e => rfl)
  | (with_reducible refine x_itFe ?e ?_); (case e => rfl)
  | with_reducible refine x_dnewO ?_
  | with_reducible refine x_dput ?_
  | with_reducible refine x_dix ?_
  | with_reducible refine x_sortedD ?_
  | with_reducible refine x_star ?_
  | with_reducible refine x_starT ?_
  | with_reducible refine x_frzD ?_
  | with_reducible refine x_sw ?_
  | with_reducible refine x_cnt ?_
  | with_reducible refine x_waC ?_
  | with_reducible refine x_waN ?_
  | with_reducible refine x_lenDD ?_
  | with_reducible refine x_allX ?_
  | (with_reducible show wFz _ _ _ _); refine x_fz rfl ?_
  | (with_reducible show wFzS _ _ _ _); refine x_fzS rfl ?_
  | (with_reducible show wFzO _ _ _ _); refine x_fzO rfl ?_
  | (with_reducible show wiK _ _ _); refine x_iK rfl ?_
  | (with_reducible show wiIt _ _ _); refine x_iIt rfl ?_
  | with_reducible refine x_iE1 ?_
  | with_reducible refine x_forR ?_
  | (with_reducible show wDIxV _ _ _ _); refine x_dixV rfl (cd_dicO _) ?_
  | (with_reducible show wDPop _ _ _ _); refine x_dpop rfl ?_
  | with_reducible refine x_pickO ?_
  | (with_reducible show wExt _ _ _ _); refine x_extO rfl ?_
  | with_reducible refine x_sortedR ?_
  | with_reducible refine x_sortedL ?_
  | with_reducible refine x_ixSt ?_
  | (with_reducible show wiVal _ _ _); refine x_iVal rfl ?_
  | with_reducible refine x_dictP ?_
  | with_reducible refine x_dictZip ?_
  | with_reducible refine x_revS ?_
  | with_reducible refine x_par ?_
  | (with_reducible show wIsiV _ _ _ _ _); refine x_isiV rfl ?_
  | ((with_reducible show _ ∧ _); refine And.intro (Nat.le_of_ble_eq_true rfl) ?_))
local macro_rules | `(tactic| walk_at "x") => `(tactic| repeat (walk_at "x1"))

section
variable {P : Program} {w : World} {K : PySem.W.Frag} {mg : Str → Option Value} {base : Heap} {tabs : List Addr}
theorem sz_le {n : Nat} (h : n ≤ 4096) : n ≤ sizeLine := Nat.le_trans h (Nat.le_of_ble_eq_true rfl)
/-! ### trusts of any content, in shape -/
def TxOk (a : Str) : Prop := PyData.strOk a = true ∧ a.length ≤ 100
def LTie (t : D) : Prop := ∃ (a b : Str) (s u : Int), t = .tup [.str a, .str b, .int s, .int u] ∧ TxOk a ∧ TxOk b
def LWish (t : D) : Prop := ∃ (a : Str) (ds : List Str) (s u : Int), t = .tup [.str a, .tup (ds.map D.str), .int s, .int u] ∧ TxOk a ∧ ds.length ≤ 3 ∧ ∀ x ∈ ds, TxOk x
structure OkT (o : Str) (ts ws : List D) : Prop where
  ho : TxOk o
  ht : ∀ t ∈ ts, LTie t
  hw : ∀ t ∈ ws, LWish t
  tl : ts.length ≤ 21
  wl : ws.length ≤ 8
theorem TxOk.fit {n : Nat} {a : Str} (h : TxOk a) : Fit n (.str a) := fit_str h.1
theorem strs_fit {n : Nat} {ds : List Str} (h : ∀ x ∈ ds, TxOk x) : Fit (n + 1) (.tup (ds.map D.str)) := fit_tup fun x hx => by
  obtain ⟨y, hy, rfl⟩ := List.mem_map.mp hx
  exact (h y hy).fit
def nm1 : D → Str
  | .tup (_ :: .str b :: _) => b
  | _ => Str.empty
/-- all names but the owner's, as the law reads them -/
def oths (o : Str) (ts ws : List D) : List Str := (ws.map nm0 ++ ts.map nm0 ++ ts.map nm1).filter (· != o)
theorem nodup_len {ys xs : List Str} (nd : ys.Nodup) (h : ∀ y, y ∈ ys ↔ y ∈ xs) : ys.length = dst xs :=
  Nat.le_antisymm (nodup_le nd fun y hy => SO.met_iff.mpr ((h y).mp hy)) (nodup_le (met_nodup _) fun y hy => (h y).mpr (SO.met_iff.mp hy))
def wOthers : WFn := fun ds Q => ∃ (o : Str) (ts ws : List D), ds = [.tup [.str o, .tup ts, .tup ws]] ∧ OkT o ts ws ∧ ∀ ys : List Str, ys.length = dst (oths o ts ws) → (∀ y ∈ ys, TxOk y) → Q (.f (.lst (ys.map D.str)))
theorem mono__law_others : MonoF wOthers := fun ds Q Q' i ⟨o, ts, ws, h1, h2, q⟩ => ⟨o, ts, ws, h1, h2, fun ys a b => i _ (q ys a b)⟩
theorem oths_ok {o : Str} {ts ws : List D} (h : OkT o ts ws) : ∀ y ∈ ws.map nm0 ++ ts.map nm0 ++ ts.map nm1, TxOk y := fun y hy => by
  rcases List.mem_append.mp hy with hy | hy
  · rcases List.mem_append.mp hy with hy | hy
    · obtain ⟨t, ht, rfl⟩ := List.mem_map.mp hy
      obtain ⟨a, ds, s, u, rfl, h1, _⟩ := h.hw t ht
      exact h1
    · obtain ⟨t, ht, rfl⟩ := List.mem_map.mp hy
      obtain ⟨a, b, s, u, rfl, h1, _⟩ := h.ht t ht
      exact h1
  · obtain ⟨t, ht, rfl⟩ := List.mem_map.mp hy
    obtain ⟨a, b, s, u, rfl, _, h1⟩ := h.ht t ht
    exact h1
theorem ok_others (T : Txt K mg) (A : At K mg "_law_others" s__law_others ["trust"]) : Cal P w K mg base 1 "_law_others" (spW K tabs (liftF wOthers)) := by
  refine A.of fun f fd F => fx_fnF F sc__law_others (fun ds Q ⟨o, ts, ws, h, _⟩ => by rw [h]; rfl) fun cdv A outer s H E TT P0 σ0 hcd hr => ⟨_, (gss_cons (gs_setE (i := 1) sc__law_others.nd rfl (Or.inl rfl) (ge_op opx_add (ge_op opx_add (ge_frz (ge_lcR (own := [("wish", 2)]) (t := .name 2) rfl sc__law_others.nd (gi_tup (GE.of_pure (gp_ix ixx (gp_var (pv 0)) gp_int (fun _ _ => rfl)))) (blkOk_by (own := [("wish", 2)]) (N := ["trust", "names", "wish", "tie", "name"]) (sc := defScope s__law_others) (by decide +kernel)) (fun _ _ _ _ _ => (pg_name (i := 2) sc__law_others.nd rfl (Or.inl rfl))) (fun _ _ _ _ _ => (GE.of_pure (gp_ix ixx (gp_var (pv 2)) gp_int (fun _ _ => rfl)))) (by decide) (mem1 rfl) (mem1 (Nat.le_of_ble_eq_true rfl)))) (ge_frz (ge_lcR (own := [("tie", 3)]) (t := .name 3) rfl sc__law_others.nd (gi_tup (GE.of_pure (gp_ix ixx (gp_var (pv 0)) gp_int (fun _ _ => rfl)))) (blkOk_by (own := [("tie", 3)]) (N := ["trust", "names", "wish", "tie", "name"]) (sc := defScope s__law_others) (by decide +kernel)) (fun _ _ _ _ _ => (pg_name (i := 3) sc__law_others.nd rfl (Or.inl rfl))) (fun _ _ _ _ _ => (GE.of_pure (gp_ix ixx (gp_var (pv 3)) gp_int (fun _ _ => rfl)))) (by decide) (mem1 rfl) (mem1 (Nat.le_of_ble_eq_true rfl))))) (ge_frz (ge_lcR (own := [("tie", 3)]) (t := .name 3) rfl sc__law_others.nd (gi_tup (GE.of_pure (gp_ix ixx (gp_var (pv 0)) gp_int (fun _ _ => rfl)))) (blkOk_by (own := [("tie", 3)]) (N := ["trust", "names", "wish", "tie", "name"]) (sc := defScope s__law_others) (by decide +kernel)) (fun _ _ _ _ _ => (pg_name (i := 3) sc__law_others.nd rfl (Or.inl rfl))) (fun _ _ _ _ _ => (GE.of_pure (gp_ix ixx (gp_var (pv 3)) gp_int (fun _ _ => rfl)))) (by decide) (mem1 rfl) (mem1 (Nat.le_of_ble_eq_true rfl))))))
      (gss_one (gs_ret (ge_sortedSets rfl (by rfl) T.z_sorted (by rfl) T.z_set (ge_frz (ge_lcR1 (own := [("name", 4)]) (t := .name 4) rfl sc__law_others.nd (gi_list (GE.of_pure (gp_var (pv 1)))) (blkOk_by (own := [("name", 4)]) (N := ["trust", "names", "wish", "tie", "name"]) (sc := defScope s__law_others) (by decide +kernel)) (fun _ _ _ _ _ => (pg_name (i := 4) sc__law_others.nd rfl (Or.inl rfl))) (fun _ _ _ _ _ => (gt_cmpP (opx_ne hr.units) (gp_var (pv 4)) (gp_ix ixx (gp_var (pv 0)) gp_int (fun _ _ => rfl)) (nomark _))) (fun _ _ _ _ _ => (GE.of_pure (gp_var (pv 4)))) (by decide) (mem1 rfl) (mem1 (Nat.le_of_ble_eq_true rfl)))))))), fun ds Q ⟨o, ts, ws, h, ok, q⟩ => ?_⟩
  subst h
  have tl := ok.tl
  have wl := ok.wl
  refine x_start (e := [some (.f (.tup [.str o, .tup ts, .tup ws])), none, none, none, none]) rfl ?_
  walk_at "x"
  refine ⟨by omega, fun i acc e => acc = ((ws.take i).map nm0).map D.str ∧ ∃ x2, e = [some (.f (.tup [.str o, .tup ts, .tup ws])), none, x2, none, none], ⟨rfl, _, rfl⟩, ?_, ?_⟩
  · rintro i d acc e hd ⟨rfl, x2, rfl⟩
    refine ⟨_, rfl, ?_⟩
    obtain ⟨a, dd, s, u, rfl, _⟩ := ok.hw d (List.mem_of_getElem? hd)
    dsimp only [List.map_cons, List.map_nil, wipeE, setE, Tgt.js, List.set_cons_zero, List.set_cons_succ]
    walk_at "x"
    exact ⟨by rw [take_snoc hd, List.map_append, List.map_append]; rfl, _, rfl⟩
  rintro acc e ⟨rfl, x2, rfl⟩
  rw [List.take_length]
  walk_at "x"
  refine ⟨by omega, fun i acc e => acc = ((ts.take i).map nm0).map D.str ∧ ∃ x3, e = [some (.f (.tup [.str o, .tup ts, .tup ws])), none, none, x3, none], ⟨rfl, _, rfl⟩, ?_, ?_⟩
  · rintro i d acc e hd ⟨rfl, x2, rfl⟩
    refine ⟨_, rfl, ?_⟩
    obtain ⟨a, b, s, u, rfl, _⟩ := ok.ht d (List.mem_of_getElem? hd)
    dsimp only [List.map_cons, List.map_nil, wipeE, setE, Tgt.js, List.set_cons_zero, List.set_cons_succ]
    walk_at "x"
    exact ⟨by rw [take_snoc hd, List.map_append, List.map_append]; rfl, _, rfl⟩
  rintro acc e ⟨rfl, x3, rfl⟩
  rw [List.take_length]
  walk_at "x"
  refine ⟨by omega, fun i acc e => acc = ((ts.take i).map nm1).map D.str ∧ ∃ x3, e = [some (.f (.tup [.str o, .tup ts, .tup ws])), none, none, x3, none], ⟨rfl, _, rfl⟩, ?_, ?_⟩
  · rintro i d acc e hd ⟨rfl, x2, rfl⟩
    refine ⟨_, rfl, ?_⟩
    obtain ⟨a, b, s, u, rfl, _⟩ := ok.ht d (List.mem_of_getElem? hd)
    dsimp only [List.map_cons, List.map_nil, wipeE, setE, Tgt.js, List.set_cons_zero, List.set_cons_succ]
    walk_at "x"
    exact ⟨by rw [take_snoc hd, List.map_append, List.map_append]; rfl, _, rfl⟩
  rintro acc e ⟨rfl, x3, rfl⟩
  rw [List.take_length]
  walk_at "x"
  rw [show List.map D.str (List.map nm0 ws) ++ List.map D.str (List.map nm0 ts) ++ List.map D.str (List.map nm1 ts) = (ws.map nm0 ++ ts.map nm0 ++ ts.map nm1).map D.str by rw [List.map_append, List.map_append]]
  have oko := oths_ok ok
  have lall : (ws.map nm0 ++ ts.map nm0 ++ ts.map nm1).length ≤ 50 := by simp; omega
  have hoths : (ws.map nm0 ++ ts.map nm0 ++ ts.map nm1).filter (· != o) = oths o ts ws := rfl
  generalize ws.map nm0 ++ ts.map nm0 ++ ts.map nm1 = all at oko lall hoths
  refine ⟨by rw [List.length_map]; omega, fun i acc e => acc = ((all.take i).filter (· != o)).map D.str ∧ ∃ x4, e = [some (.f (.tup [.str o, .tup ts, .tup ws])), some (.f (.lst (all.map D.str))), none, none, x4], ⟨rfl, _, rfl⟩, ?_, ?_⟩
  · rintro i d acc e hd ⟨rfl, x2, rfl⟩
    obtain ⟨y, hy, rfl⟩ := at_map hd
    refine ⟨_, rfl, ?_⟩
    dsimp only [List.map_cons, List.map_nil, wipeE, setE, Tgt.js, List.set_cons_zero, List.set_cons_succ]
    walk_at "x"
    refine x_neD (okPy_str (oko y (List.mem_of_getElem? hy)).1) (okPy_str ok.ho.1) ?_
    rw [eq_strs]
    walk_at "x"
    cases hc : y == o with
    | true =>
      rw [if_pos rfl]
      exact ⟨by rw [take_snoc hy, List.filter_append, List.filter_cons_of_neg (by rw [bne, hc]; decide), List.filter_nil, List.append_nil], _, rfl⟩
    | false =>
      rw [if_neg Bool.false_ne_true]
      walk_at "x"
      exact ⟨by rw [take_snoc hy, List.filter_append, List.filter_cons_of_pos (by rw [bne, hc]; rfl), List.filter_nil, List.map_append]; rfl, _, rfl⟩
  rintro acc e ⟨rfl, x4, rfl⟩
  rw [List.length_map, List.take_length]
  walk_at "x"
  have le : (all.filter (· != o)).length ≤ 50 := Nat.le_trans (List.length_filter_le ..) lall
  refine ⟨all.filter (· != o), rfl, Nat.lt_of_le_of_lt (SS.met_len _ _) (by omega), by omega, fun ys nd _ mem => ⟨nofun, Nat.le_of_ble_eq_true rfl, ?_⟩⟩
  refine q ys (by rw [← hoths]; exact nodup_len nd mem) fun y hy => oko y ?_
  exact (List.mem_filter.mp ((mem y).mp hy)).1
/-! ### the law's own words -/
def oneS (c : Nat) : Str := ⟨#[c]⟩
theorem signs_at {a : Str} {i : Nat} {d : D} (h : (Fx.signs a)[i]? = some d) : ∃ c, a.cps.toList[i]? = some c ∧ d = .str (oneS c) := by
  unfold Fx.signs at h
  rw [List.getElem?_map] at h
  cases e : a.cps.toList[i]? with
  | none => rw [e] at h; cases h
  | some y => rw [e] at h; cases h; exact ⟨y, rfl, rfl⟩
theorem empty_all {p : Nat → Bool} : ∀ l : List Nat, ((l.filter fun c => !p c).map oneS).isEmpty = l.all p
  | [] => rfl
  | c :: l => by
    rw [List.all_cons, List.filter_cons]
    cases h : p c with
    | true => rw [Bool.not_true, if_neg Bool.false_ne_true, Bool.true_and]; exact empty_all l
    | false => rw [Bool.not_false, if_pos rfl]; rfl
def wLName : WFn := fun ds Q => ∃ a : Str, ds = [.str a] ∧ TxOk a ∧ Q (.f (.bl (nameB (.str a))))
theorem mono__law_is_name : MonoF wLName := fun ds Q Q' i ⟨a, h1, h2, q⟩ => ⟨a, h1, h2, i _ q⟩
theorem ok_lisname (T : Txt K mg) (A : At K mg "_law_is_name" s__law_is_name ["thing"]) : Cal P w K mg base 1 "_law_is_name" (spW K tabs (liftF wLName)) := by
  refine A.of fun f fd F => fx_fnF F sc__law_is_name (fun ds Q ⟨a, h, _⟩ => by rw [h]; rfl) fun cdv A outer s H E TT P0 σ0 hcd hr => ⟨_, (gss_one (gs_ret (ge_and (ge_chain opx_le opx_le (GE.of_pure gp_int) (ge_cbB1 cax_len (by rfl) T.z_len (by decide +kernel) (pv 0)) (GE.of_pure gp_int)) (ge_one (ge_cmp (opx_eq hr.units) (ge_frz (ge_lcR1 (own := [("sign", 1)]) (t := .name 1) rfl sc__law_is_name.nd (gi_str (GE.of_pure (gp_var (pv 0)))) (blkOk_by (own := [("sign", 1)]) (N := ["thing", "sign"]) (sc := defScope s__law_is_name) (by decide +kernel)) (fun _ _ _ _ _ => (pg_name (i := 1) sc__law_is_name.nd rfl (Or.inl rfl))) (fun _ _ _ _ _ => (gt_not (gt_chain opx_le opx_le (GE.of_pure gp_str) (GE.of_pure (gp_var (pv 1))) (GE.of_pure gp_str)))) (fun _ _ _ _ _ => (GE.of_pure (gp_var (pv 1)))) (by decide) (mem1 rfl) (mem1 (Nat.le_of_ble_eq_true rfl)))) (ge_lstD gd_nil) (nomark _)))))), fun ds Q ⟨a, h, ok, q⟩ => ?_⟩
  subst h
  refine x_start (e := [some (.f (.str a)), none]) rfl ?_
  walk_at "x"
  refine x_lenS (sz_le (Nat.le_trans ok.2 (by decide))) ?_
  walk_at "x"
  have nb : nameB (.str a) = (decide ((1 : Int) ≤ (a.length : Int)) && (decide ((a.length : Int) ≤ 8) && a.cps.toList.all (btw "a" "z"))) := by
    show (decide ((1 : Int) ≤ (a.length : Int)) && (decide ((a.length : Int) ≤ 8) && Fx.nmB "a" "z" a)) = _
    unfold Fx.nmB
    rw [show a.cps.size = a.cps.toList.length by simp, rng_all]
  rw [nb] at q
  refine x_ite (fun h1 => ?_) (fun h1 => ?_)
  · rw [h1, Bool.true_and] at q
    walk_at "x"
    refine x_ite (fun h2 => ?_) (fun h2 => ?_)
    · rw [h2, Bool.true_and, ← empty_all] at q
      walk_at "x"
      refine ⟨by unfold Fx.signs; rw [List.length_map, ← TL.len_tl]; exact Nat.le_trans ok.2 (by decide), fun i acc e => acc = (((a.cps.toList.take i).filter fun c => !btw "a" "z" c).map oneS).map D.str ∧ ∃ x1, e = [some (.f (.str a)), x1], ⟨rfl, _, rfl⟩, ?_, ?_⟩
      · rintro i d acc e hd ⟨rfl, x1, rfl⟩
        obtain ⟨c, hc, rfl⟩ := signs_at hd
        refine ⟨_, rfl, ?_⟩
        dsimp only [List.map_cons, List.map_nil, wipeE, setE, Tgt.js, List.set_cons_zero, List.set_cons_succ]
        walk_at "x"
        have bt : btw "a" "z" c = (!decide ((oneS c).cps.toList < (Str.ofString "a").cps.toList) && !decide ((Str.ofString "z").cps.toList < (oneS c).cps.toList)) := rfl
        have yes : btw "a" "z" c = false → (((a.cps.toList.take i).filter fun c => !btw "a" "z" c).map oneS).map D.str ++ [D.str (oneS c)] = (((a.cps.toList.take (i + 1)).filter fun c => !btw "a" "z" c).map oneS).map D.str := fun h => by
          rw [take_snoc hc, List.filter_append, List.filter_cons_of_pos (by rw [h]; rfl), List.filter_nil, List.map_append, List.map_append]
          rfl
        have no : btw "a" "z" c = true → (((a.cps.toList.take i).filter fun c => !btw "a" "z" c).map oneS).map D.str = (((a.cps.toList.take (i + 1)).filter fun c => !btw "a" "z" c).map oneS).map D.str := fun h => by
          rw [take_snoc hc, List.filter_append, List.filter_cons_of_neg (by rw [h]; decide), List.filter_nil, List.append_nil]
        refine x_ite (fun h3 => ?_) (fun h3 => ?_)
        · rw [h3, Bool.not_true, Bool.false_and] at bt
          refine ⟨_, rfl, ?_⟩
          rw [Bool.not_false, if_pos rfl]
          walk_at "x"
          exact ⟨yes bt, _, rfl⟩
        · rw [h3, Bool.not_false, Bool.true_and] at bt
          walk_at "x"
          refine x_ite (fun h4 => ?_) (fun h4 => ?_)
          · rw [h4, Bool.not_true] at bt
            walk_at "x"
            exact ⟨yes bt, _, rfl⟩
          · rw [h4, Bool.not_false] at bt
            exact ⟨no bt, _, rfl⟩
      rintro acc e ⟨rfl, x1, rfl⟩
      rw [show (Fx.signs a).length = a.cps.toList.length by unfold Fx.signs; rw [List.length_map], List.take_length]
      walk_at "x"
      refine x_eqD (okPy_strs fun x hx => ?_) (by decide +kernel) ?_
      · obtain ⟨c, hc, rfl⟩ := List.mem_map.mp hx
        exact strOk_list fun y hy => by
          have hy : y ∈ [c] := hy
          rw [List.mem_singleton.mp hy]
          exact strOk_mem ok.1 c (List.mem_filter.mp hc).1
      walk_at "x"
      rw [eqB_nil]
      exact q
    · rw [h2, Bool.false_and] at q
      walk_at "x"
      exact q
  · rw [h1, Bool.false_and] at q
    walk_at "x"
    exact q
def wLSpan : WFn := fun ds Q => ∃ s u : Int, ds = [.int s, .int u] ∧ Q (.f (.bl (spanB (.int s) (.int u))))
theorem mono__law_is_span : MonoF wLSpan := fun ds Q Q' i ⟨a, b, h1, q⟩ => ⟨a, b, h1, i _ q⟩
theorem ok_lisspan (A : At K mg "_law_is_span" s__law_is_span ["since", "until"]) : Cal P w K mg base 1 "_law_is_span" (spW K tabs (liftF wLSpan)) := by
  refine A.of fun f fd F => fx_fnF F sc__law_is_span (fun ds Q ⟨a, b, h, _⟩ => by rw [h]; rfl) fun cdv A outer s H E TT P0 σ0 hcd hr => ⟨_, (gss_one (gs_ret (ge_and (GE.of_pure (gp_cmp opx_le gp_int (gp_var (pv 0)) (nomark _))) (ge_and (GE.of_pure (gp_cmp opx_lt (gp_var (pv 0)) (gp_var (pv 1)) (nomark _))) (ge_one (GE.of_pure (gp_cmp opx_le (gp_var (pv 1)) gp_int (nomark _)))))))), fun ds Q ⟨a, b, h, q⟩ => ?_⟩
  subst h
  refine x_start (e := [some (.f (.int a)), some (.f (.int b))]) rfl ?_
  walk_at "x"
  have e : spanB (.int a) (.int b) = (decide (0 ≤ a) && (decide (a < b) && decide (b ≤ 1000000))) := by
    show ((decide (0 ≤ a) && decide (a ≤ 1000000)) && ((decide (0 ≤ b) && decide (b ≤ 1000000)) && decide (a < b))) = _
    rw [Bool.eq_iff_iff]
    simp only [Bool.and_eq_true, decide_eq_true_iff]
    omega
  rw [e] at q
  refine x_ite (fun h1 => ?_) (fun h1 => ?_)
  · rw [h1, Bool.true_and] at q
    walk_at "x"
    refine x_ite (fun h2 => ?_) (fun h2 => ?_)
    · rw [h2, Bool.true_and] at q
      walk_at "x"
      exact q
    · rw [h2, Bool.false_and] at q
      walk_at "x"
      exact q
  · rw [h1, Bool.false_and] at q
    walk_at "x"
    exact q
def wLDeeds : WFn := fun ds Q => ∃ xs : List Str, ds = [.tup (xs.map D.str)] ∧ (∀ x ∈ xs, TxOk x) ∧ Q (.f (.bl (deedsB (.tup (xs.map D.str)))))
theorem mono__law_is_deeds : MonoF wLDeeds := fun ds Q Q' i ⟨a, h1, h2, q⟩ => ⟨a, h1, h2, i _ q⟩
theorem ok_lisdeeds (A : At K mg "_law_is_deeds" s__law_is_deeds ["deeds"]) : Cal P w K mg base 1 "_law_is_deeds" (spW K tabs (liftF wLDeeds)) := by
  refine A.of fun f fd F => fx_fnF F sc__law_is_deeds (fun ds Q ⟨a, h, _⟩ => by rw [h]; rfl) fun cdv A outer s H E TT P0 σ0 hcd hr => ⟨_, (gss_one (gs_ret (ge_cmp (opx_in hr.u65) (GE.of_pure (gp_var (pv 0))) (ge_lstD (gd_cons (ge_tupD (gd_cons (GE.of_pure gp_str) gd_nil)) (gd_cons (ge_tupD (gd_cons (GE.of_pure gp_str) gd_nil)) (gd_cons (ge_tupD (gd_cons (GE.of_pure gp_str) (gd_cons (GE.of_pure gp_str) gd_nil))) gd_nil)))) (by rfl)))), fun ds Q ⟨xs, h, ok, q⟩ => ?_⟩
  subst h
  refine x_start (e := [some (.f (.tup (xs.map D.str)))]) rfl ?_
  walk_at "x"
  refine x_inL ((strs_fit (n := 0) ok).ok (by decide)) (by decide +kernel) ?_
  walk_at "x"
  have e : deedsB (.tup (xs.map D.str)) = memB allDeeds (.tup (xs.map D.str)) := by
    show ((xs.map D.str).all Fx.isStr && memB allDeeds (.tup (xs.map D.str))) = _
    rw [List.all_eq_true.mpr, Bool.true_and]
    intro x hx
    obtain ⟨y, _, rfl⟩ := List.mem_map.mp hx
    rfl
  rw [e] at q
  exact q
def wLTruth : WFn := fun ds Q => ∃ a b : Bool, ds = [.bl a, .bl b] ∧ Q (.f (.bl (a == b)))
theorem mono__law_truth : MonoF wLTruth := fun ds Q Q' i ⟨a, b, h1, q⟩ => ⟨a, b, h1, i _ q⟩
theorem ok_ltruth (T : Txt K mg) (A : At K mg "_law_truth" s__law_truth ["found", "due"]) : Cal P w K mg base 1 "_law_truth" (spW K tabs (liftF wLTruth)) := by
  refine A.of fun f fd F => fx_fnF F sc__law_truth (fun ds Q ⟨a, b, h, _⟩ => by rw [h]; rfl) fun cdv A outer s H E TT P0 σ0 hcd hr => ⟨_, (gss_one (gs_ret (ge_and (ge_cbB cax_isi (by rfl) T.z_isinstance (by decide +kernel) (gd_cons (GE.of_pure (gp_var (pv 0))) (gd_cons (GE.of_pure (gp_ty (n := "bool") (by rfl) T.z_bool (by decide +kernel))) gd_nil))) (ge_one (GE.of_pure (gp_cmp (opx_eq hr.units) (gp_var (pv 0)) (gp_var (pv 1)) (nomark _))))))), fun ds Q ⟨a, b, h, q⟩ => ?_⟩
  subst h
  refine x_start (e := [some (.f (.bl a)), some (.f (.bl b))]) rfl ?_
  walk_at "x"
  refine ⟨rfl, rfl, ?_⟩
  have e : eqB (.bl a) (.bl b) = (a == b) := by cases a <;> cases b <;> rfl
  walk_at "x"
  rw [← e] at q
  exact q

/-! ### the law's forms -/
theorem all_no {α : Type} {f : α → Bool} {l : List α} {i : Nat} {x : α} (h : l[i]? = some x) (n : f x = false) : l.all f = false := List.all_eq_false.mpr ⟨x, List.mem_of_getElem? h, by rw [n]; decide⟩
theorem all_yes {α : Type} {f : α → Bool} {l : List α} (h : ∀ j x, j < l.length → l[j]? = some x → f x = true) : l.all f = true := List.all_eq_true.mpr fun x hx => by
  obtain ⟨j, hj, rfl⟩ := List.getElem_of_mem hx
  exact h j _ hj (List.getElem?_eq_getElem hj)
theorem up_next {α : Type} {p : α → Prop} {l : List α} {i : Nat} {x : α} (hx : l[i]? = some x) (hj : ∀ j y, j < i → l[j]? = some y → p y) (h : p x) : ∀ j y, j < i + 1 → l[j]? = some y → p y := fun j y hj2 hy => by
  rcases Nat.lt_succ_iff_lt_or_eq.mp hj2 with l | l
  · exact hj j y l hy
  · subst l
    rw [hx] at hy
    cases hy
    exact h
theorem formB_law (r : Rw) : formB r = (nameB (.str r.g) && (nameB (.str r.h) && (!(r.g == r.h) && (decide (0 ≤ r.k) && (decide (r.k ≤ 6) && (deedsB r.p && spanB (.int r.s) (.int r.u))))))) := by
  unfold formB
  rw [show betwB (.int r.k) 0 6 = (decide (0 ≤ r.k) && decide (r.k ≤ 6)) from rfl]
  cases deedsB r.p <;> cases nameB (.str r.g) <;> cases nameB (.str r.h) <;> cases (r.g == r.h) <;> cases decide (0 ≤ r.k) <;> cases decide (r.k ≤ 6) <;> cases spanB (.int r.s) (.int r.u) <;> rfl
theorem deeds4_strs : ∀ {d : D}, d ∈ deeds4 → ∃ xs : List Str, d = .tup (xs.map D.str) ∧ ∀ x ∈ xs, TxOk x := by
  intro d h
  have o1 : TxOk "look" := by constructor <;> decide +kernel
  have o2 : TxOk "set" := by constructor <;> decide +kernel
  rcases List.mem_cons.mp h with rfl | h
  · exact ⟨["look"], rfl, List.forall_mem_cons.mpr ⟨o1, nofun⟩⟩
  rcases List.mem_cons.mp h with rfl | h
  · exact ⟨["set"], rfl, List.forall_mem_cons.mpr ⟨o2, nofun⟩⟩
  rcases List.mem_cons.mp h with rfl | h
  · exact ⟨["look", "set"], rfl, List.forall_mem_cons.mpr ⟨o1, List.forall_mem_cons.mpr ⟨o2, nofun⟩⟩⟩
  obtain rfl := List.mem_singleton.mp h
  exact ⟨["set", "look"], rfl, List.forall_mem_cons.mpr ⟨o2, List.forall_mem_cons.mpr ⟨o1, nofun⟩⟩⟩
def wLForms : WFn := fun ds Q => ∃ rs : List Rw, ds = [.tup (rs.map Rw.d)] ∧ (∀ r ∈ rs, r.W) ∧ Q (.f (.bl (rs.all formB)))
theorem mono__law_forms : MonoF wLForms := fun ds Q Q' i ⟨rs, h1, h2, q⟩ => ⟨rs, h1, h2, i _ q⟩
theorem ok_lforms (T : Txt K mg) (c__law_is_name : Cal P w K mg base 1 "_law_is_name" (spW K tabs (liftF wLName))) (c__law_is_span : Cal P w K mg base 1 "_law_is_span" (spW K tabs (liftF wLSpan))) (c__law_is_deeds : Cal P w K mg base 1 "_law_is_deeds" (spW K tabs (liftF wLDeeds)))
    (A : At K mg "_law_forms" s__law_forms ["rows"]) : Cal P w K mg base 2 "_law_forms" (spW K tabs (liftF wLForms)) := by
  refine A.of fun f fd F => fx_fnF F sc__law_forms (fun ds Q ⟨_, h, _⟩ => by rw [h]; rfl) fun cdv A outer s H E TT P0 σ0 hcd hr => ⟨_, (gss_cons (gs_for PassesOwn.never rfl (gi_tup (GE.of_pure (gp_var (pv 0)))) (gg_tup (n := 6) rfl (ggs_cons (pg_name (i := 1) sc__law_forms.nd rfl (Or.inl rfl)) rfl (ggs_cons (pg_name (i := 2) sc__law_forms.nd rfl (Or.inl rfl)) rfl (ggs_cons (pg_name (i := 3) sc__law_forms.nd rfl (Or.inl rfl)) rfl (ggs_cons (pg_name (i := 4) sc__law_forms.nd rfl (Or.inl rfl)) rfl (ggs_cons (pg_name (i := 5) sc__law_forms.nd rfl (Or.inl rfl)) rfl (ggs_cons (pg_name (i := 6) sc__law_forms.nd rfl (Or.inl rfl)) rfl ggs_nil)))))))
      (gss_cons (gs_if (GW.gt (gw_or (gt_not (gt_tru (ge_callF c__law_is_name hr (by decide) rfl rfl rfl mono__law_is_name (gd_cons (GE.of_pure (gp_var (pv 1))) gd_nil)))) (gw_or (gt_not (gt_tru (ge_callF c__law_is_name hr (by decide) rfl rfl rfl mono__law_is_name (gd_cons (GE.of_pure (gp_var (pv 2))) gd_nil)))) (gw_or (gt_cmpP (opx_eq hr.units) (gp_var (pv 1)) (gp_var (pv 2)) (nomark _)) (gw_or1 (gt_not (gt_chain opx_le opx_le (GE.of_pure gp_int) (GE.of_pure (gp_var (pv 6))) (GE.of_pure gp_int))))))))
      (gss_one (gs_ret (GE.of_pure gp_bl)))
      gss_nil)
      (gss_one (gs_if (GW.gt (gw_or (gt_not (gt_tru (ge_callF c__law_is_deeds hr (by decide) rfl rfl rfl mono__law_is_deeds (gd_cons (GE.of_pure (gp_var (pv 3))) gd_nil)))) (gw_or1 (gt_not (gt_tru (ge_callF c__law_is_span hr (by decide) rfl rfl rfl mono__law_is_span (gd_cons (GE.of_pure (gp_var (pv 4))) (gd_cons (GE.of_pure (gp_var (pv 5))) gd_nil))))))))
      (gss_one (gs_ret (GE.of_pure gp_bl)))
      gss_nil))))
      (gss_one (gs_ret (GE.of_pure gp_bl)))), fun ds Q ⟨rs, e, hrs, q⟩ => ?_⟩
  subst e
  refine x_start (e := [some (.f (.tup (rs.map Rw.d))), none, none, none, none, none, none]) rfl ?_
  walk_at "x"
  refine ⟨fun i e => (∀ j r, j < i → rs[j]? = some r → formB r = true) ∧ ∃ x1 x2 x3 x4 x5 x6, e = [some (.f (.tup (rs.map Rw.d))), x1, x2, x3, x4, x5, x6], ⟨fun j y h => absurd h (Nat.not_lt_zero _), _, _, _, _, _, _, rfl⟩, ?_, ?_⟩
  · rintro i d e hd ⟨hj, x1, x2, x3, x4, x5, x6, rfl⟩
    rw [List.getElem?_map] at hd
    obtain ⟨r, hr0, rfl⟩ := Option.map_eq_some_iff.mp hd
    have rw_ := hrs r (List.mem_of_getElem? hr0)
    obtain ⟨dp, edp, odp⟩ := deeds4_strs rw_.p
    have fl := formB_law r
    have no : formB r = false → Q (.f (.bl false)) := fun h => by
      rw [all_no hr0 h] at q
      exact q
    rw [show r.d = .tup [.str r.g, .str r.h, r.p, .int r.s, .int r.u, .int r.k] from rfl]
    walk_at "x"
    refine ⟨r.g, rfl, ⟨rw_.g, rw_.gl⟩, ?_⟩
    cases h1 : nameB (.str r.g) with
    | false =>
      rw [h1] at fl
      walk_at "x"
      exact no fl
    | true =>
    walk_at "x"
    refine ⟨r.h, rfl, ⟨rw_.h, rw_.hl⟩, ?_⟩
    cases h2 : nameB (.str r.h) with
    | false =>
      rw [h1, h2] at fl
      walk_at "x"
      exact no fl
    | true =>
    walk_at "x"
    refine x_eqD (okPy_str rw_.g) (okPy_str rw_.h) ?_
    rw [eq_strs]
    cases h3 : r.g == r.h with
    | true =>
      rw [h1, h2, h3] at fl
      walk_at "x"
      exact no fl
    | false =>
    walk_at "x"
    rw [h1, h2, h3, Bool.true_and, Bool.true_and, Bool.not_false, Bool.true_and] at fl
    refine x_ite (fun h4 => ?_) (fun h4 => ?_)
    · rw [h4, Bool.true_and] at fl
      walk_at "x"
      refine x_ite (fun h5 => ?_) (fun h5 => ?_)
      · rw [h5, Bool.true_and] at fl
        walk_at "x"
        refine ⟨dp, by rw [← edp], odp, ?_⟩
        rw [← edp]
        cases h6 : deedsB r.p with
        | false =>
          rw [h6] at fl
          walk_at "x"
          exact no fl
        | true =>
        rw [h6, Bool.true_and] at fl
        walk_at "x"
        refine ⟨r.s, r.u, rfl, ?_⟩
        cases h7 : spanB (.int r.s) (.int r.u) with
        | false =>
          rw [h7] at fl
          walk_at "x"
          exact no fl
        | true =>
        rw [h7] at fl
        walk_at "x"
        exact ⟨up_next hr0 hj fl, _, _, _, _, _, _, rfl⟩
      · rw [h5, Bool.false_and] at fl
        walk_at "x"
        exact no fl
    · rw [h4, Bool.false_and] at fl
      walk_at "x"
      exact no fl
  rintro e ⟨hj, x1, x2, x3, x4, x5, x6, rfl⟩
  rw [List.length_map] at hj
  rw [all_yes hj] at q
  walk_at "x"
  exact q
/-! ### lies, within -/
theorem okPy_ties {ts : List Ti} (h : ∀ t ∈ ts, t.Ok) : okPy (.lst (ts.map Ti.d)) = true := by
  refine (fit_lst (n := 1) fun x hx => ?_).ok (by decide)
  obtain ⟨t, ht, rfl⟩ := List.mem_map.mp hx
  have o := h t ht
  refine fit_tup fun x hx => ?_
  simp only [List.mem_cons, List.not_mem_nil, or_false] at hx
  rcases hx with rfl | rfl | rfl | rfl
  · exact fit_str (name_cp o.a)
  · exact fit_str (name_cp o.b)
  · exact fit_int
  · exact fit_int
def wLLies : WFn := fun ds Q => ∃ (oo : Str) (ts : List Ti) (xs : List Wi) (r : Rw), ds = [trustD oo ts xs, .str r.g, .str r.h, .int r.s, .int r.u] ∧ TrOk oo ts xs ∧ PyData.strOk r.g = true ∧ PyData.strOk r.h = true ∧ Q (.f (.bl (tieV ts r)))
theorem mono__law_lies : MonoF wLLies := fun ds Q Q' i ⟨oo, ts, xs, r, h1, h2, h3, h4, q⟩ => ⟨oo, ts, xs, r, h1, h2, h3, h4, i _ q⟩
theorem any_ne {α : Type} {f : α → Bool} {g : α → D} {l : List α} : (!((l.filter f).map g).isEmpty) = l.any f := by
  induction l with
  | nil => rfl
  | cons x l ih =>
    rw [List.filter_cons, List.any_cons]
    cases h : f x with
    | true => rfl
    | false => rw [if_neg Bool.false_ne_true, Bool.false_or]; exact ih
theorem ne_nilD (l : List D) : eqB (.lst l) (.lst []) = l.isEmpty := by
  cases l <;> (show PyData.eqvAll (D.pyL _) [] = _; simp [D.pyL, PyData.eqvAll])
theorem ok_llies (T : Txt K mg) (A : At K mg "_law_lies" s__law_lies ["trust", "giver", "holder", "since", "until"]) : Cal P w K mg base 1 "_law_lies" (spW K tabs (liftF wLLies)) := by
  refine A.of fun f fd F => fx_fnF F sc__law_lies (fun ds Q ⟨_, _, _, _, h, _⟩ => by rw [h]; rfl) fun cdv A outer s H E TT P0 σ0 hcd hr => ⟨_, (gss_cons (gs_lcFR1 (i := 5) (own := [("tie", 6)]) (t := .name 6) rfl sc__law_lies.nd rfl rfl (sw_true rfl rfl rfl (by decide +kernel)) (gi_tup (GE.of_pure (gp_ix ixx (gp_var (pv 0)) gp_int (fun _ _ => rfl)))) (blkOk_by (own := [("tie", 6)]) (N := ["trust", "giver", "holder", "since", "until", "some", "tie"]) (sc := defScope s__law_lies) (by decide +kernel)) (fun _ _ _ _ _ => (pg_name (i := 6) sc__law_lies.nd rfl (Or.inl rfl))) (fun _ _ _ _ _ => (gt_cmp (opx_eq hr.units) (ge_sl (GE.of_pure (gp_var (pv 6))) go_none (go_some (GE.of_pure gp_int))) (ge_tupD (gd_cons (GE.of_pure (gp_var (pv 1))) (gd_cons (GE.of_pure (gp_var (pv 2))) gd_nil))) (nomark _))) (fun _ _ _ _ _ => (GE.of_pure (gp_var (pv 6)))) (by decide) (mem1 rfl) (mem1 (Nat.le_of_ble_eq_true rfl)))
      (gss_one (gs_ret (ge_cmp (opx_ne hr.units) (ge_frz (ge_lcR1 (own := [("tie", 6)]) (t := .name 6) rfl sc__law_lies.nd (gi_list (GE.of_pure (gp_var (pv 5)))) (blkOk_by (own := [("tie", 6)]) (N := ["trust", "giver", "holder", "since", "until", "some", "tie"]) (sc := defScope s__law_lies) (by decide +kernel)) (fun _ _ _ _ _ => (pg_name (i := 6) sc__law_lies.nd rfl (Or.inl rfl))) (fun _ _ _ _ _ => (GW.gt (gw_and (gt_cmpP opx_le (gp_ix ixx (gp_var (pv 6)) gp_int (fun _ _ => rfl)) (gp_var (pv 3)) (nomark _)) (gw_and1 (gt_cmpP opx_le (gp_var (pv 4)) (gp_ix ixx (gp_var (pv 6)) gp_int (fun _ _ => rfl)) (nomark _)))))) (fun _ _ _ _ _ => (GE.of_pure (gp_var (pv 6)))) (by decide) (mem1 rfl) (mem1 (Nat.le_of_ble_eq_true rfl)))) (ge_lstD gd_nil) (nomark _))))), fun ds Q ⟨oo, ts, xs, r, e, tr, hg, hh, q⟩ => ?_⟩
  subst e
  have tl := tr.tl
  refine x_start (e := [some (.f (.tup [.str oo, .tup (ts.map Ti.d), .tup (xs.map Wi.d)])), some (.f (.str r.g)), some (.f (.str r.h)), some (.f (.int r.s)), some (.f (.int r.u)), none, none]) rfl ?_
  walk_at "x"
  refine ⟨by rw [List.length_map]; omega, fun i acc e => acc = ((ts.take i).filter (hitT r)).map Ti.d ∧ ∃ x6, e = [some (.f (.tup [.str oo, .tup (ts.map Ti.d), .tup (xs.map Wi.d)])), some (.f (.str r.g)), some (.f (.str r.h)), some (.f (.int r.s)), some (.f (.int r.u)), none, x6], ⟨rfl, _, rfl⟩, ?_, ?_⟩
  · rintro i d acc e hd ⟨rfl, x6, rfl⟩
    rw [List.getElem?_map] at hd
    obtain ⟨t, ht, rfl⟩ := Option.map_eq_some_iff.mp hd
    have okt := tr.hts t (List.mem_of_getElem? ht)
    refine ⟨_, rfl, ?_⟩
    dsimp only [List.map_cons, List.map_nil, wipeE, setE, Tgt.js, List.set_cons_zero, List.set_cons_succ]
    rw [show t.d = .tup [.str t.a, .str t.b, .int t.s, .int t.u] from rfl]
    walk_at "x"
    refine x_slT (ds' := [.str t.a, .str t.b]) rfl ?_
    walk_at "x"
    refine x_eqD (pair_ok (name_cp okt.a) (name_cp okt.b)) (pair_ok hg hh) ?_
    rw [eqB_pair]
    walk_at "x"
    have sn : (ts.take (i + 1)).filter (hitT r) = (ts.take i).filter (hitT r) ++ [t].filter (hitT r) := by rw [take_snoc ht, List.filter_append]
    cases hc : ((t.a == r.g) && (t.b == r.h)) with
    | true =>
      rw [if_pos rfl]
      rw [show [t].filter (hitT r) = [t] by rw [List.filter_cons, if_pos (show hitT r t = true from hc)]; rfl] at sn
      walk_at "x"
      exact ⟨by rw [sn, List.map_append]; rfl, _, rfl⟩
    | false =>
      rw [if_neg Bool.false_ne_true]
      rw [show [t].filter (hitT r) = [] by rw [List.filter_cons, if_neg (by rw [show hitT r t = false from hc]; decide)]; rfl, List.append_nil] at sn
      exact ⟨by rw [sn], _, rfl⟩
  rintro acc e ⟨rfl, x6, rfl⟩
  rw [List.length_map, List.take_length]
  have fl : (ts.filter (hitT r)).length ≤ 20 := Nat.le_trans (List.length_filter_le ..) tl
  have fo : ∀ t ∈ ts.filter (hitT r), t.Ok := fun t h => tr.hts t (List.mem_filter.mp h).1
  unfold tieV at q
  generalize ts.filter (hitT r) = fs at fl fo q
  try dsimp only [List.map_cons, List.map_nil, wipeE, List.set_cons_zero, List.set_cons_succ]
  walk_at "x"
  refine ⟨by rw [List.length_map]; omega, fun i acc e => acc = ((fs.take i).filter (inT r)).map Ti.d ∧ ∃ x7, e = [some (.f (.tup [.str oo, .tup (ts.map Ti.d), .tup (xs.map Wi.d)])), some (.f (.str r.g)), some (.f (.str r.h)), some (.f (.int r.s)), some (.f (.int r.u)), some (.f (.lst (fs.map Ti.d))), x7], ⟨rfl, _, rfl⟩, ?_, ?_⟩
  · rintro i d acc e hd ⟨rfl, x7, rfl⟩
    rw [List.getElem?_map] at hd
    obtain ⟨t, ht, rfl⟩ := Option.map_eq_some_iff.mp hd
    refine ⟨_, rfl, ?_⟩
    dsimp only [List.map_cons, List.map_nil, wipeE, setE, Tgt.js, List.set_cons_zero, List.set_cons_succ]
    rw [show t.d = .tup [.str t.a, .str t.b, .int t.s, .int t.u] from rfl]
    walk_at "x"
    have yes : inT r t = true → ((fs.take i).filter (inT r)).map Ti.d ++ [D.tup [.str t.a, .str t.b, .int t.s, .int t.u]] = ((fs.take (i + 1)).filter (inT r)).map Ti.d := fun h => by
      rw [take_snoc ht, List.filter_append, List.filter_cons_of_pos h, List.filter_nil, List.map_append]
      rfl
    have no : inT r t = false → ((fs.take i).filter (inT r)).map Ti.d = ((fs.take (i + 1)).filter (inT r)).map Ti.d := fun h => by
      rw [take_snoc ht, List.filter_append, List.filter_cons_of_neg (by rw [h]; decide), List.filter_nil, List.append_nil]
    refine x_ite (fun h3 => ?_) (fun h3 => ?_)
    · walk_at "x"
      refine x_ite (fun h4 => ?_) (fun h4 => ?_)
      · walk_at "x"
        exact ⟨yes (by show (_ && _) = true; rw [h3, h4]; rfl), _, rfl⟩
      · walk_at "x"
        exact ⟨no (by show (_ && _) = false; rw [h3, h4]; rfl), _, rfl⟩
    · walk_at "x"
      exact ⟨no (by show (_ && _) = false; rw [h3]; rfl), _, rfl⟩
  rintro acc e ⟨rfl, x7, rfl⟩
  rw [List.length_map, List.take_length]
  try dsimp only [List.map_cons, List.map_nil, wipeE, List.set_cons_zero, List.set_cons_succ]
  walk_at "x"
  refine x_neD ?_ (by decide +kernel) ?_
  · exact okPy_ties fun t ht => fo t (List.mem_filter.mp ht).1
  walk_at "x"
  rw [ne_nilD, any_ne]
  exact q

end
end K75

namespace K75
open PySem PySem.Spec PyProof.Rows L2 Lk Evl Fx



local macro_rules | `(tactic| walk_at "sz") => `(tactic| first
  | exact Nat.le_of_ble_eq_true rfl
  | assumption
  | exact small_sz (Nat.le_of_ble_eq_true rfl)
  | (simp only [List.length_cons, List.length_nil, List.length_map, List.length_append]; first | omega | exact small_sz (by omega)))
local macro_rules | `(tactic| walk_at "x1") => `(tactic| first
  | with_reducible refine x_seq ?_
  | (with_reducible show wVar _ _ _); first | refine x_varF rfl ?_ | refine x_varO rfl ?_ | refine x_varV rfl ?_
  | with_reducible refine x_c ?_
  | with_reducible refine x_exf ?_
  | with_reducible refine x_excd ?_
  | (with_reducible show ∃ d1, Sl.cd (Sl.vw _) = some d1 ∧ _); refine x_excV rfl ?_
  | (with_reducible show ∃ d1, Sl.cd (Sl.own _) = some d1 ∧ _); refine x_excO rfl ?_
  | with_reducible refine x_binP ?_
  | with_reducible refine x_bin ?_
  | with_reducible refine x_adC ?_
  | with_reducible refine x_adN ?_
  | with_reducible refine x_lst ?_
  | with_reducible refine x_tup ?_
  | with_reducible refine x_lstO ?_
  | (with_reducible refine x_and (p := _ ≤ sizeLine) ?h ?_); (case h => walk_at "sz")
  | with_reducible refine x_callF ?_
  | with_reducible refine x_callL ?_
  | with_reducible refine x_listO ?_
  | (with_reducible show wCallU _ _ _ _ _); refine x_callU rfl ?_
  | with_reducible refine x_callV ?_
  | with_reducible refine x_join ?_
  | with_reducible refine x_waD ?_
  | with_reducible refine x_lc ?_
  | with_reducible refine x_lc2 ?_
  | with_reducible refine x_lenSets ?_
  | (with_reducible show wApp _ _ _ _); refine x_app rfl ?_
  | (with_reducible show wBinV _ _ _ _ _); refine x_binV rfl ?_
  | (with_reducible show wPopD _ _ _ _); refine x_popD rfl ?_
  | (with_reducible show wCatV _ _ _ _); refine x_catV rfl ?_
  | with_reducible refine x_slN2 ?_
  | with_reducible refine x_sortedSets ?_
  | with_reducible refine x_tplL ?_
  | with_reducible refine x_tplT ?_
  | with_reducible refine x_isB ?_
  | with_reducible refine x_r1 ?_
  | with_reducible refine x_r2 ?_
  | (with_reducible refine x_r1e ?h0 ?h1 ?_); (case h0 => omega); (case h1 => omega)
  | with_reducible refine x_iL ?_
  | with_reducible refine x_iT ?_
  | with_reducible refine x_iS ?_
  | with_reducible refine x_iE ?_
  | with_reducible refine x_iEe ?_
  | with_reducible refine x_yes ?_
  | with_reducible refine x_for ?_
  | (with_reducible show wLot _ [D.int _] _); (refine' x_lot (by assumption) ?h1 ?h2 ?h3 ?_); (case h1 => omega); (case h2 => first | decide | omega); (case h3 => first | decide | omega)
  | (with_reducible show ∃ o, _ = some (some (Sl.own o)) ∧ _); refine x_exO rfl ?_
  | with_reducible refine x_exo ?_
  | with_reducible refine x_ret ?_
  | with_reducible refine x_set ?_
  | with_reducible refine x_fin ?_
  | with_reducible refine x_fino ?_
  | (with_reducible refine x_and (p := _ < List.length _) ?h ?_); (case h => exact Nat.le_of_ble_eq_true rfl); (try dsimp only [List.set_cons_succ, List.set_cons_zero])
  | with_reducible refine x_next ?_
  | with_reducible refine x_retN ?_
  | with_reducible refine x_drop ?_
  | with_reducible refine x_asg ?_
  | (with_reducible refine x_gtp ?h ?_); (case h => rfl)
  | with_reducible refine x_gcons ?_
  | with_reducible refine x_gnil ?_
  | (with_reducible refine x_gn ?h ?_); (case h => exact Nat.le_of_ble_eq_true rfl); (try dsimp only [List.set_cons_succ, List.set_cons_zero])
  | with_reducible refine x_ifS ?_
  | with_reducible refine x_if ?_
  | with_reducible refine x_itT ?_
  | with_reducible refine x_itF ?_
  | with_reducible refine x_iteN ?_
  | with_reducible refine x_tru ?_
  | with_reducible refine x_tB ?_
  | with_reducible refine x_dtB ?_
  | with_reducible refine x_dtN ?_
  | with_reducible refine x_exb ?_
  | with_reducible refine x_exdb ?_
  | with_reducible refine x_tand ?_
  | with_reducible refine x_tor ?_
  | with_reducible refine x_tnot ?_
  | with_reducible refine x_and2 ?_
  | with_reducible refine x_or2 ?_
  | with_reducible refine x_not2 ?_
  | with_reducible refine x_chain ?_
  | with_reducible refine x_sub ?_
  | with_reducible refine x_addI ?_
  | (with_reducible refine x_addS ?h ?_); (case h => walk_at "sz")
  | (with_reducible refine x_addL ?h ?_); (case h => walk_at "sz")
  | (with_reducible refine x_addT ?h ?_); (case h => walk_at "sz")
  | with_reducible refine x_lt ?_
  | with_reducible refine x_le ?_
  | with_reducible refine x_gt ?_
  | with_reducible refine x_ge ?_
  | with_reducible refine x_ltS ?_
  | with_reducible refine x_eqI ?_
  | with_reducible refine x_neI ?_
  | with_reducible refine x_allSg ?_
  | with_reducible refine x_m0 ?_
  | with_reducible refine x_lstT ?_
  | with_reducible refine x_lstL ?_
  | with_reducible refine x_strB ?_
  | with_reducible refine x_strN ?_
  | with_reducible refine x_strS ?_
  | with_reducible refine x_isT ?_
  | with_reducible refine x_isI ?_
  | with_reducible refine x_neg ?_
  | with_reducible refine x_un ?_
  | (with_reducible refine x_pow ?h ?_); (case h => exact ⟨by decide, by decide +kernel⟩)
  | (with_reducible refine x_mod ?h ?_); (case h => first | decide | omega)
  | (with_reducible refine x_mul ?h ?_); (case h => exact mul_ok (by first | decide | omega) (by first | decide | omega))
  | (with_reducible refine x_div ?h ?_); (case h => exact div_ok (by first | decide | omega) (by first | decide | omega))
  | with_reducible refine x_ipA ?_
  | (with_reducible show wAugL _ _ _ _ _ _); refine x_augL rfl ?_
  | (with_reducible show wAug _ _ _ _ _); refine x_aug rfl ?_
  | (with_reducible show ∃ k' ds d, Sl.f (D.int _) = Sl.f (D.int k') ∧ _); refine x_augL1 rfl (by decide) rfl ?_
  | (with_reducible show ∃ k' j ds, Sl.f (D.int _) = Sl.f (D.int k') ∧ _ = some (some (Sl.own (O.lst ds))) ∧ ixN _ k' = some j ∧ _); refine x_setL1 rfl rfl ?_; (try dsimp only [List.set_cons_succ, List.set_cons_zero])
  | (with_reducible show ∃ ds j, _ = some (some (Sl.own (O.lst ds))) ∧ ixN _ _ = some j ∧ _); refine x_augL2 rfl rfl ?_; (try dsimp only [List.set_cons_succ, List.set_cons_zero])
  | (with_reducible show gSetL _ _ _ _ _); refine x_setL rfl ?_
  | (with_reducible show dIx (D.lst _) (D.int _) _); refine x_ixL rfl ?_
  | (with_reducible show dIx (D.tup _) (D.int _) _); refine x_ixT rfl ?_
  | with_reducible refine x_cb ?_
  | (with_reducible show wCB1 _ _ _ _); refine x_cb1 rfl rfl ?_
  | with_reducible refine x_fm ?_
  | with_reducible refine x_exl ?_
  | with_reducible refine x_ext ?_
  | with_reducible refine x_exs ?_
  | with_reducible refine x_exi ?_
  | with_reducible refine x_sl ?_
  | with_reducible refine x_slN ?_
  | with_reducible refine x_slS ?_
  | with_reducible refine x_frz ?_
  | with_reducible refine x_frL ?_
  | with_reducible refine x_revT ?_
  | with_reducible refine x_revL ?_
  | with_reducible refine x_splitO ?_
  | (with_reducible show wSlO _ _ _ _ _); refine x_slO rfl ?_
  | (with_reducible show ∃ ds2, _ = some (some (Sl.own (O.lst ds2))) ∧ _); refine x_exOl rfl ?_
  | with_reducible refine x_dictO ?_
  | with_reducible refine x_psC ?_
  | with_reducible refine x_psN ?_
  | with_reducible refine x_get ?_
  | (with_reducible show gSetSl _ _ _ _ _ _); refine x_setSl rfl ?_
  | with_reducible refine x_split ?_
  | with_reducible refine x_isN1 ?_
  | with_reducible refine x_isN0 rfl ?_
  | with_reducible refine x_iZ ?_
  | with_reducible refine x_zT ?_
  | with_reducible refine x_zL ?_
  | with_reducible refine x_stp ?_
  | with_reducible refine x_js ?_
  | with_reducible refine x_jsC ?_
  | with_reducible refine x_jsN ?_
  | with_reducible refine x_fmt ?_
  | with_reducible refine x_callFX ?_
  | (with_reducible refine x_glp ?h ?_); (case h => rfl)
  | with_reducible refine x_raiseR ?_
  | with_reducible refine x_row ?_
  | with_reducible refine x_lenL ?_
  | with_reducible refine x_lenT ?_
  | with_reducible refine x_lenD ?_
  | (with_reducible refine x_lenS ?h ?_); (case h => walk_at "sz")
  | with_reducible refine x_max ?_
  | with_reducible refine x_min ?_
  | with_reducible refine x_intI ?_
  | with_reducible refine x_intB ?_
  | (with_reducible refine x_isInt ?h ?_); (case h => first | assumption | exact part_ty (by assumption) | (intro _ hh; cases hh; done))
  | (with_reducible refine x_isBl ?h ?_); (case h => first | assumption | exact part_ty (by assumption) | (intro _ hh; cases hh; done))
  | (with_reducible refine x_isStr ?h ?_); (case h => first | assumption | exact part_ty (by assumption) | (intro _ hh; cases hh; done))
  | (with_reducible refine x_isTup ?h ?_); (case h => first | assumption | exact part_ty (by assumption) | (intro _ hh; cases hh; done))
  | (with_reducible refine x_isLst ?h ?_); (case h => first | assumption | exact part_ty (by assumption) | (intro _ hh; cases hh; done))
  | (with_reducible refine x_isDic ?h ?_); (case h => first | assumption | exact part_ty (by assumption) | (intro _ hh; cases hh; done))
  | (with_reducible refine x_itTe ?e ?_); (case e => rfl)
  | (with_reducible refine x_itFe ?e ?_); (case e => rfl)
  | with_reducible refine x_dnewO ?_
  | with_reducible refine x_dput ?_
  | with_reducible refine x_dix ?_
  | with_reducible refine x_sortedD ?_
  | with_reducible refine x_star ?_
  | with_reducible refine x_starT ?_
  | with_reducible refine x_frzD ?_
  | with_reducible refine x_sw ?_
  | with_reducible refine x_cnt ?_
  | with_reducible refine x_waC ?_
  | with_reducible refine x_waN ?_
  | with_reducible refine x_lenDD ?_
  | with_reducible refine x_allX ?_
  | (with_reducible show wFz _ _ _ _); refine x_fz rfl ?_
  | (with_reducible show wFzS _ _ _ _); refine x_fzS rfl ?_
  | (with_reducible show wFzO _ _ _ _); refine x_fzO rfl ?_
  | (with_reducible show wiK _ _ _); refine x_iK rfl ?_
  | (with_reducible show wiIt _ _ _); refine x_iIt rfl ?_
  | with_reducible refine x_iE1 ?_
  | with_reducible refine x_forR ?_
  | (with_reducible show wDIxV _ _ _ _); refine x_dixV rfl (cd_dicO _) ?_
  | (with_reducible show wDPop _ _ _ _); refine x_dpop rfl ?_
  | with_reducible refine x_pickO ?_
  | (with_reducible show wExt _ _ _ _); refine x_extO rfl ?_
  | with_reducible refine x_sortedR ?_
  | with_reducible refine x_sortedL ?_
  | with_reducible refine x_ixSt ?_
  | (with_reducible show wiVal _ _ _); refine x_iVal rfl ?_
  | with_reducible refine x_dictP ?_
  | with_reducible refine x_dictZip ?_
  | with_reducible refine x_revS ?_
  | with_reducible refine x_par ?_
  | (with_reducible show wIsiV _ _ _ _ _); refine x_isiV rfl ?_
  | ((with_reducible show _ ∧ _); refine And.intro (Nat.le_of_ble_eq_true rfl) ?_))
local macro_rules | `(tactic| walk_at "x") => `(tactic| repeat (walk_at "x1"))

section
variable {P : Program} {w : World} {K : PySem.W.Frag} {mg : Str → Option Value} {base : Heap} {tabs : List Addr}
/-! ### the law's plan -/
theorem miss_emp {α : Type} {f : α → Bool} {g : α → D} {l : List α} : ((l.filter fun x => !f x).map g).isEmpty = l.all f := by
  induction l with
  | nil => rfl
  | cons x l ih =>
    rw [List.filter_cons, List.all_cons]
    cases h : f x with
    | true => rw [Bool.not_true, if_neg Bool.false_ne_true, Bool.true_and]; exact ih
    | false => rfl
theorem fit_deed {d : D} {rd : List D} (h : d ∈ deeds4) (e : d = .tup rd) : ∀ x ∈ rd, Fit 0 x := by
  obtain ⟨xs, e2, ok⟩ := deeds4_strs h
  rw [e2] at e
  cases e
  intro x hx
  obtain ⟨y, hy, rfl⟩ := List.mem_map.mp hx
  exact fit_str (ok y hy).1
def wLWithin : WFn := fun ds Q => ∃ r o : Rw, ds = [r.d, o.d] ∧ r.W ∧ o.W ∧ Q (.f (.bl (withinV r o)))
theorem mono__law_within : MonoF wLWithin := fun ds Q Q' i ⟨r, o, h1, h2, h3, q⟩ => ⟨r, o, h1, h2, h3, i _ q⟩
theorem ok_lwithin (T : Txt K mg) (A : At K mg "_law_within" s__law_within ["row", "other"]) : Cal P w K mg base 1 "_law_within" (spW K tabs (liftF wLWithin)) := by
  refine A.of fun f fd F => fx_fnF F sc__law_within (fun ds Q ⟨_, _, h, _⟩ => by rw [h]; rfl) fun cdv A outer s H E TT P0 σ0 hcd hr => ⟨_, (gss_cons (gs_asg (GE.of_pure (gp_var (pv 0))) (gg_tup (n := 6) rfl (ggs_cons (pg_name (i := 2) sc__law_within.nd rfl (Or.inl rfl)) rfl (ggs_cons (pg_name (i := 3) sc__law_within.nd rfl (Or.inl rfl)) rfl (ggs_cons (pg_name (i := 4) sc__law_within.nd rfl (Or.inl rfl)) rfl (ggs_cons (pg_name (i := 5) sc__law_within.nd rfl (Or.inl rfl)) rfl (ggs_cons (pg_name (i := 6) sc__law_within.nd rfl (Or.inl rfl)) rfl (ggs_cons (pg_name (i := 7) sc__law_within.nd rfl (Or.inl rfl)) rfl ggs_nil))))))))
      (gss_cons (gs_if (GW.gt (gw_or (gt_cmpP (opx_ne hr.units) (gp_ix ixx (gp_var (pv 1)) gp_int (fun _ _ => rfl)) (gp_var (pv 2)) (nomark _)) (gw_or1 (gt_cmp (opx_ne hr.units) (ge_frz (ge_lcR1 (own := [("deed", 8)]) (t := .name 8) rfl sc__law_within.nd (gi_tup (GE.of_pure (gp_var (pv 4)))) (blkOk_by (own := [("deed", 8)]) (N := ["row", "other", "giver", "holder", "deeds", "since", "until", "passes", "deed"]) (sc := defScope s__law_within) (by decide +kernel)) (fun _ _ _ _ _ => (pg_name (i := 8) sc__law_within.nd rfl (Or.inl rfl))) (fun _ _ _ _ _ => (gt_cmpP (opx_nin hr.u65) (gp_var (pv 8)) (gp_ix ixx (gp_var (pv 1)) gp_int (fun _ _ => rfl)) (by rfl))) (fun _ _ _ _ _ => (GE.of_pure (gp_var (pv 8)))) (by decide) (mem1 rfl) (mem1 (Nat.le_of_ble_eq_true rfl)))) (ge_lstD gd_nil) (nomark _)))))
      (gss_one (gs_ret (GE.of_pure gp_bl)))
      gss_nil)
      (gss_one (gs_ret (ge_and (GE.of_pure (gp_cmp opx_le (gp_ix ixx (gp_var (pv 1)) gp_int (fun _ _ => rfl)) (gp_var (pv 5)) (nomark _))) (ge_and (GE.of_pure (gp_cmp opx_le (gp_var (pv 6)) (gp_ix ixx (gp_var (pv 1)) gp_int (fun _ _ => rfl)) (nomark _))) (ge_one (GE.of_pure (gp_cmp opx_gt (gp_ix ixx (gp_var (pv 1)) gp_int (fun _ _ => rfl)) (gp_var (pv 7)) (nomark _)))))))))), fun ds Q ⟨r, o, e, hr0, ho, q⟩ => ?_⟩
  subst e
  have hr0p := hr0.p
  have d1 := deeds4_tup hr0p
  have d2 := deeds4_tup ho.p
  have rgk := hr0.g
  have ohk := ho.h
  obtain ⟨rg, rh, rp, rs, ru, rk⟩ := r
  obtain ⟨og, oh, op, os, ou, ok⟩ := o
  obtain ⟨rd, rfl⟩ : ∃ rd, rp = .tup rd := ⟨_, d1.1⟩
  obtain ⟨od, rfl⟩ : ∃ od, op = .tup od := ⟨_, d2.1⟩
  have dr2 : ∀ d ∈ rd, okPy d = true := d1.2.1
  have dr3 : rd.length ≤ 2 := d1.2.2.2.1
  have do3 : okPy (.tup od) = true := d2.2.2.1
  have q : Q (.f (.bl (rd.all (memB od) && (decide (os ≤ rs) && (decide (ru ≤ ou) && (decide (rk < ok) && (oh == rg))))))) := q
  refine x_start (e := [some (.f (.tup [.str rg, .str rh, .tup rd, .int rs, .int ru, .int rk])), some (.f (.tup [.str og, .str oh, .tup od, .int os, .int ou, .int ok])), none, none, none, none, none, none, none]) rfl ?_
  walk_at "x"
  refine x_neD (okPy_str ohk) (okPy_str rgk) ?_
  rw [eq_strs]
  cases hc : oh == rg with
  | false =>
    rw [hc, Bool.and_false, Bool.and_false, Bool.and_false, Bool.and_false] at q
    walk_at "x"
    exact q
  | true =>
  rw [hc, Bool.and_true] at q
  walk_at "x"
  refine ⟨by omega, fun j acc e => acc = ((rd.take j).filter fun x => !memB od x) ∧ ∃ x8, e = [some (.f (.tup [.str rg, .str rh, .tup rd, .int rs, .int ru, .int rk])), some (.f (.tup [.str og, .str oh, .tup od, .int os, .int ou, .int ok])), some (.f (.str rg)), some (.f (.str rh)), some (.f (.tup rd)), some (.f (.int rs)), some (.f (.int ru)), some (.f (.int rk)), x8], ⟨rfl, _, rfl⟩, ?_, ?_⟩
  · rintro j d acc e hd ⟨rfl, x8, rfl⟩
    refine ⟨_, rfl, ?_⟩
    dsimp only [List.map_cons, List.map_nil, wipeE, setE, Tgt.js, List.set_cons_zero, List.set_cons_succ]
    walk_at "x"
    refine x_ninT (dr2 d (List.mem_of_getElem? hd)) do3 ?_
    walk_at "x"
    cases hm : memB od d with
    | true =>
      walk_at "x"
      exact ⟨by rw [take_snoc hd, List.filter_append, List.filter_cons_of_neg (by rw [hm]; decide), List.filter_nil, List.append_nil], _, rfl⟩
    | false =>
      walk_at "x"
      exact ⟨by rw [take_snoc hd, List.filter_append, List.filter_cons_of_pos (by rw [hm]; rfl), List.filter_nil], _, rfl⟩
  rintro acc e ⟨rfl, x8, rfl⟩
  rw [List.take_length]
  try dsimp only [List.map_cons, List.map_nil, wipeE, List.set_cons_zero, List.set_cons_succ]
  walk_at "x"
  refine x_neD ((fit_lst (n := 0) fun x hx => fit_deed hr0p rfl x (List.mem_filter.mp hx).1).ok (by decide)) (by decide +kernel) ?_
  rw [ne_nilD, show (rd.filter fun x => !memB od x).isEmpty = rd.all (memB od) from by rw [← miss_emp (g := id), List.map_id]]
  cases ha : rd.all (memB od) with
  | false =>
    rw [ha, Bool.false_and] at q
    walk_at "x"
    exact q
  | true =>
  rw [ha, Bool.true_and] at q
  walk_at "x"
  refine x_ite (fun h1 => ?_) (fun h1 => ?_)
  · rw [h1, Bool.true_and] at q
    walk_at "x"
    refine x_ite (fun h2 => ?_) (fun h2 => ?_)
    · rw [h2, Bool.true_and] at q
      walk_at "x"
      exact q
    · rw [h2, Bool.false_and] at q
      walk_at "x"
      exact q
  · rw [h1, Bool.false_and] at q
    walk_at "x"
    exact q

theorem fit_row {r : Rw} (h : r.W) : Fit 2 r.d := by
  refine fit_tup fun x hx => ?_
  simp only [List.mem_cons, List.not_mem_nil, or_false] at hx
  rcases hx with rfl | rfl | rfl | rfl | rfl | rfl
  · exact fit_str h.g
  · exact fit_str h.h
  · have d := deeds4_tup h.p
    rw [d.1]
    exact fit_tup fun x hx => fit_deed h.p d.1 x hx
  · exact fit_int
  · exact fit_int
  · exact fit_int
theorem okPy_rows {rs : List Rw} (h : ∀ r ∈ rs, r.W) : okPy (.lst (rs.map Rw.d)) = true := by
  refine (fit_lst (n := 2) fun x hx => ?_).ok (by decide)
  obtain ⟨r, hr, rfl⟩ := List.mem_map.mp hx
  exact fit_row (h r hr)
def hitG (x : Wi) (r : Rw) : Bool := (r.h == x.a) && (decide (r.s ≤ x.s) && decide (x.u ≤ r.u))
def bearG (x : Wi) (r : Rw) : Bool := (deedsL x.p).all (memB (deedsL r.p))
def grant2 (x : Wi) (rs : List Rw) : Bool := (rs.filter (hitG x)).any (bearG x)
def lplanV (oo : Str) (ts : List Ti) (xs : List Wi) (rs : List Rw) : Bool := (risB (rs.map (·.h)) && !(rs.map (·.h)).contains oo) && (rs.all (tieV ts) && (rs.all (giverV oo rs) && xs.all (fun x => grant2 x rs)))
def wLPlan : WFn := fun ds Q => ∃ (oo : Str) (ts : List Ti) (xs : List Wi) (rs : List Rw), ds = [trustD oo ts xs, .tup (rs.map Rw.d)] ∧ TrOk oo ts xs ∧ (∀ r ∈ rs, r.W) ∧ rs.length ≤ 60 ∧ Q (.f (.bl (lplanV oo ts xs rs)))
theorem mono__law_is_plan : MonoF wLPlan := fun ds Q Q' i ⟨oo, ts, ws, rs, h1, h2, h3, h4, q⟩ => ⟨oo, ts, ws, rs, h1, h2, h3, h4, i _ q⟩
theorem ok_lplan (T : Txt K mg) (c__law_lies : Cal P w K mg base 1 "_law_lies" (spW K tabs (liftF wLLies))) (c__law_within : Cal P w K mg base 1 "_law_within" (spW K tabs (liftF wLWithin)))
    (A : At K mg "_law_is_plan" s__law_is_plan ["trust", "rows"]) : Cal P w K mg base 2 "_law_is_plan" (spW K tabs (liftF wLPlan)) := by
  refine A.of fun f fd F => fx_fnF F sc__law_is_plan (fun ds Q ⟨_, _, _, _, h, _⟩ => by rw [h]; rfl) fun cdv A outer s H E TT P0 σ0 hcd hr => ⟨_, (gss_cons (gs_lcFR (i := 2) (own := [("row", 3)]) (t := .name 3) rfl sc__law_is_plan.nd rfl rfl (sw_true rfl rfl rfl (by decide +kernel)) (gi_tup (GE.of_pure (gp_var (pv 1)))) (blkOk_by (own := [("row", 3)]) (N := ["trust", "rows", "holders", "row", "giver", "holder", "deeds", "since", "until", "passes", "over", "other", "actor", "some", "deed"]) (sc := defScope s__law_is_plan) (by decide +kernel)) (fun _ _ _ _ _ => (pg_name (i := 3) sc__law_is_plan.nd rfl (Or.inl rfl))) (fun _ _ _ _ _ => (GE.of_pure (gp_ix ixx (gp_var (pv 3)) gp_int (fun _ _ => rfl)))) (by decide) (mem1 rfl) (mem1 (Nat.le_of_ble_eq_true rfl)))
      (gss_cons (gs_if (GW.gt (gw_or (gt_cmp (opx_ne hr.units) (GE.of_pure (gp_var (pv 2))) (ge_sortedSets rfl (by rfl) T.z_sorted (by rfl) T.z_set (GE.of_pure (gp_var (pv 2)))) (nomark _)) (gw_or1 (gt_cmpP (opx_in hr.u65) (gp_ix ixx (gp_var (pv 0)) gp_int (fun _ _ => rfl)) (gp_var (pv 2)) (by rfl)))))
      (gss_one (gs_ret (GE.of_pure gp_bl)))
      gss_nil)
      (gss_cons (gs_for PassesOwn.never rfl (gi_tup (GE.of_pure (gp_var (pv 1)))) (gg_tup (n := 6) rfl (ggs_cons (pg_name (i := 4) sc__law_is_plan.nd rfl (Or.inl rfl)) rfl (ggs_cons (pg_name (i := 5) sc__law_is_plan.nd rfl (Or.inl rfl)) rfl (ggs_cons (pg_name (i := 6) sc__law_is_plan.nd rfl (Or.inr rfl)) rfl (ggs_cons (pg_name (i := 7) sc__law_is_plan.nd rfl (Or.inr rfl)) rfl (ggs_cons (pg_name (i := 8) sc__law_is_plan.nd rfl (Or.inr rfl)) rfl (ggs_cons (pg_name (i := 9) sc__law_is_plan.nd rfl (Or.inl rfl)) rfl ggs_nil)))))))
      (gss_one (gs_if (gt_not (gt_tru (ge_callF c__law_lies hr (by decide) rfl rfl rfl mono__law_lies (gd_cons (GE.of_pure (gp_var (pv 0))) (gd_cons (GE.of_pure (gp_var (pv 4))) (gd_cons (GE.of_pure (gp_var (pv 5))) (gd_cons (GE.of_pure (gp_var (pv 7))) (gd_cons (GE.of_pure (gp_var (pv 8))) gd_nil))))))))
      (gss_one (gs_ret (GE.of_pure gp_bl)))
      gss_nil)))
      (gss_cons (gs_for PassesOwn.never rfl (gi_tup (GE.of_pure (gp_var (pv 1)))) (gg_name (pg_name (i := 3) sc__law_is_plan.nd rfl (Or.inr rfl)) rfl)
      (gss_cons (gs_lcFR1 (i := 10) (own := [("other", 11)]) (t := .name 11) rfl sc__law_is_plan.nd rfl rfl (sw_true rfl rfl rfl (by decide +kernel)) (gi_tup (GE.of_pure (gp_var (pv 1)))) (blkOk_by (own := [("other", 11)]) (N := ["trust", "rows", "holders", "row", "giver", "holder", "deeds", "since", "until", "passes", "over", "other", "actor", "some", "deed"]) (sc := defScope s__law_is_plan) (by decide +kernel)) (fun _ _ _ _ _ => (pg_name (i := 11) sc__law_is_plan.nd rfl (Or.inl rfl))) (fun _ _ _ _ _ => (gt_tru (ge_callF c__law_within hr (by decide) rfl rfl rfl mono__law_within (gd_cons (GE.of_pure (gp_var (pv 3))) (gd_cons (GE.of_pure (gp_var (pv 11))) gd_nil))))) (fun _ _ _ _ _ => (GE.of_pure (gp_var (pv 11)))) (by decide) (mem1 rfl) (mem1 (Nat.le_of_ble_eq_true rfl)))
      (gss_one (gs_if (GW.gt (gw_and (gt_cmpP (opx_ne hr.units) (gp_ix ixx (gp_var (pv 3)) gp_int (fun _ _ => rfl)) (gp_ix ixx (gp_var (pv 0)) gp_int (fun _ _ => rfl)) (nomark _)) (gw_and1 (gt_cmp (opx_eq hr.units) (GE.of_pure (gp_var (pv 10))) (ge_lstD gd_nil) (nomark _)))))
      (gss_one (gs_ret (GE.of_pure gp_bl)))
      gss_nil))))
      (gss_cons (gs_for PassesOwn.never rfl (gi_tup (GE.of_pure (gp_ix ixx (gp_var (pv 0)) gp_int (fun _ _ => rfl)))) (gg_tup (n := 4) rfl (ggs_cons (pg_name (i := 12) sc__law_is_plan.nd rfl (Or.inr rfl)) rfl (ggs_cons (pg_name (i := 6) sc__law_is_plan.nd rfl (Or.inr rfl)) rfl (ggs_cons (pg_name (i := 7) sc__law_is_plan.nd rfl (Or.inr rfl)) rfl (ggs_cons (pg_name (i := 8) sc__law_is_plan.nd rfl (Or.inr rfl)) rfl ggs_nil)))))
      (gss_cons (gs_lcFR1 (i := 13) (own := [("row", 3)]) (t := .name 3) rfl sc__law_is_plan.nd rfl rfl (sw_true rfl rfl rfl (by decide +kernel)) (gi_tup (GE.of_pure (gp_var (pv 1)))) (blkOk_by (own := [("row", 3)]) (N := ["trust", "rows", "holders", "row", "giver", "holder", "deeds", "since", "until", "passes", "over", "other", "actor", "some", "deed"]) (sc := defScope s__law_is_plan) (by decide +kernel)) (fun _ _ _ _ _ => (pg_name (i := 3) sc__law_is_plan.nd rfl (Or.inl rfl))) (fun _ _ _ _ _ => (GW.gt (gw_and (gt_cmpP (opx_eq hr.units) (gp_ix ixx (gp_var (pv 3)) gp_int (fun _ _ => rfl)) (gp_var (pv 12)) (nomark _)) (gw_and (gt_cmpP opx_le (gp_ix ixx (gp_var (pv 3)) gp_int (fun _ _ => rfl)) (gp_var (pv 7)) (nomark _)) (gw_and1 (gt_cmpP opx_le (gp_var (pv 8)) (gp_ix ixx (gp_var (pv 3)) gp_int (fun _ _ => rfl)) (nomark _))))))) (fun _ _ _ _ _ => (GE.of_pure (gp_var (pv 3)))) (by decide) (mem1 rfl) (mem1 (Nat.le_of_ble_eq_true rfl)))
      (gss_one (gs_if (gt_cmp (opx_eq hr.units) (ge_frz (ge_lcR1 (own := [("row", 3)]) (t := .name 3) rfl sc__law_is_plan.nd (gi_list (GE.of_pure (gp_var (pv 13)))) (blkOk_by (own := [("row", 3)]) (N := ["trust", "rows", "holders", "row", "giver", "holder", "deeds", "since", "until", "passes", "over", "other", "actor", "some", "deed"]) (sc := defScope s__law_is_plan) (by decide +kernel)) (fun _ _ _ _ _ => (pg_name (i := 3) sc__law_is_plan.nd rfl (Or.inr rfl))) (fun _ _ _ _ _ => (gt_cmp (opx_eq hr.units) (ge_frz (ge_lcR1 (own := [("deed", 14)]) (t := .name 14) rfl sc__law_is_plan.nd (gi_tup (GE.of_pure (gp_var (pv 6)))) (blkOk_by (own := [("deed", 14)]) (N := ["trust", "rows", "holders", "row", "giver", "holder", "deeds", "since", "until", "passes", "over", "other", "actor", "some", "deed"]) (sc := relS _ (defScope s__law_is_plan)) (by decide +kernel)) (fun _ _ _ _ _ => (pg_name (i := 14) sc__law_is_plan.nd rfl (Or.inl rfl))) (fun _ _ _ _ _ => (gt_cmpP (opx_nin hr.u65) (gp_var (pv 14)) (gp_ix ixx (gp_var (pv 3)) gp_int (fun _ _ => rfl)) (by rfl))) (fun _ _ _ _ _ => (GE.of_pure (gp_var (pv 14)))) (by decide) (mem1 rfl) (mem1 (Nat.le_of_ble_eq_true rfl)))) (ge_lstD gd_nil) (nomark _))) (fun _ _ _ _ _ => (GE.of_pure (gp_var (pv 3)))) (by decide) (mem1 rfl) (mem1 (Nat.le_of_ble_eq_true rfl)))) (ge_lstD gd_nil) (nomark _))
      (gss_one (gs_ret (GE.of_pure gp_bl)))
      gss_nil))))
      (gss_one (gs_ret (GE.of_pure gp_bl)))))))), fun ds Q ⟨oo, ts, xs, rs, e, hp, hrs, hl, q⟩ => ?_⟩
  subst e
  have hl' : (rs.map Rw.d).length ≤ 60 := by rw [List.length_map]; exact hl
  refine x_start (e := [some (.f (.tup [.str oo, .tup (ts.map Ti.d), .tup (xs.map Wi.d)])), some (.f (.tup (rs.map Rw.d))), none, none, none, none, none, none, none, none, none, none, none, none, none]) rfl ?_
  unfold lplanV at q
  walk_at "x"
  refine ⟨by omega, fun i acc e => acc = ((rs.take i).map (·.h)).map D.str ∧ ∃ x3, e = [some (.f (.tup [.str oo, .tup (ts.map Ti.d), .tup (xs.map Wi.d)])), some (.f (.tup (rs.map Rw.d))), none, x3, none, none, none, none, none, none, none, none, none, none, none], ⟨rfl, _, rfl⟩, ?_, ?_⟩
  · rintro i d acc e hd ⟨rfl, x3, rfl⟩
    rw [List.getElem?_map] at hd
    obtain ⟨y, hy, rfl⟩ := Option.map_eq_some_iff.mp hd
    refine ⟨_, rfl, ?_⟩
    dsimp only [List.map_cons, List.map_nil, wipeE, setE, Tgt.js, List.set_cons_zero, List.set_cons_succ]
    unfold Rw.d
    walk_at "x"
    exact ⟨by rw [take_snoc hy, List.map_append, List.map_append]; rfl, _, rfl⟩
  rintro acc e ⟨rfl, x3, rfl⟩
  rw [List.length_map, List.take_length]
  try dsimp only [List.map_cons, List.map_nil, wipeE, List.set_cons_zero, List.set_cons_succ]
  have sok := hs_str hrs
  have lok := okPy_strs sok
  have hl2 : (rs.map (·.h)).length ≤ 60 := by rw [List.length_map]; exact hl
  generalize ehs : rs.map (·.h) = hs at q sok lok hl2
  walk_at "x"
  refine ⟨hs, rfl, Nat.lt_of_le_of_lt (dst_le fun _ h => h) (show hs.length < 64 by omega), by omega, fun ys n2 s2 mm => ?_⟩
  walk_at "x"
  have yok : okPy (.lst (ys.map D.str)) = true := okPy_strs fun y hy => sok y ((mm y).mp hy)
  refine x_neD lok yok ?_
  rw [eqB_lstr, ris_ne n2 s2 mm]
  cases h2 : risB hs with
  | false =>
    rw [h2, Bool.false_and, Bool.false_and] at q
    walk_at "x"
    exact q
  | true =>
  rw [h2, Bool.true_and] at q
  walk_at "x"
  refine x_inL (okPy_str (name_cp hp.hoo)) lok ?_
  rw [mem_strs]
  cases h3 : hs.contains oo with
  | true =>
    rw [h3, Bool.not_true, Bool.false_and] at q
    walk_at "x"
    exact q
  | false =>
  rw [h3, Bool.not_false, Bool.true_and] at q
  walk_at "x"
  refine ⟨fun i e => (∀ j r, j < i → rs[j]? = some r → tieV ts r = true) ∧ ∃ x3 x4 x5 x6 x7 x8 x9, e = [some (.f (.tup [.str oo, .tup (ts.map Ti.d), .tup (xs.map Wi.d)])), some (.f (.tup (rs.map Rw.d))), some (.f (.lst (hs.map D.str))), x3, x4, x5, x6, x7, x8, x9, none, none, none, none, none], ⟨fun j y h => absurd h (Nat.not_lt_zero _), _, _, _, _, _, _, _, rfl⟩, ?_, ?_⟩
  · rintro i d e hd ⟨hj, x3, x4, x5, x6, x7, x8, x9, rfl⟩
    rw [List.getElem?_map] at hd
    obtain ⟨r, hr0, rfl⟩ := Option.map_eq_some_iff.mp hd
    have rw_ := hrs r (List.mem_of_getElem? hr0)
    rw [show r.d = .tup [.str r.g, .str r.h, r.p, .int r.s, .int r.u, .int r.k] from rfl]
    walk_at "x"
    refine ⟨oo, ts, xs, r, rfl, hp, rw_.g, rw_.h, ?_⟩
    cases h4 : tieV ts r with
    | false =>
      rw [all_no hr0 h4, Bool.false_and] at q
      walk_at "x"
      exact q
    | true =>
      walk_at "x"
      exact ⟨up_next hr0 hj h4, _, _, _, _, _, _, _, rfl⟩
  rintro e ⟨hj, x3, x4, x5, x6, x7, x8, x9, rfl⟩
  rw [List.length_map] at hj
  rw [all_yes hj, Bool.true_and] at q
  clear hj
  walk_at "x"
  refine ⟨fun i e => (∀ j r, j < i → rs[j]? = some r → giverV oo rs r = true) ∧ ∃ x3 x10 x11, e = [some (.f (.tup [.str oo, .tup (ts.map Ti.d), .tup (xs.map Wi.d)])), some (.f (.tup (rs.map Rw.d))), some (.f (.lst (hs.map D.str))), x3, x4, x5, x6, x7, x8, x9, x10, x11, none, none, none], ⟨fun j y h => absurd h (Nat.not_lt_zero _), _, _, _, rfl⟩, ?_, ?_⟩
  · rintro i d e hd ⟨hj, x3, x10, x11, rfl⟩
    rw [List.getElem?_map] at hd
    obtain ⟨r, hr0, rfl⟩ := Option.map_eq_some_iff.mp hd
    have rw_ := hrs r (List.mem_of_getElem? hr0)
    walk_at "x"
    refine ⟨by omega, fun i acc e => acc = ((rs.take i).filter (withinV r)).map Rw.d ∧ ∃ x11, e = [some (.f (.tup [.str oo, .tup (ts.map Ti.d), .tup (xs.map Wi.d)])), some (.f (.tup (rs.map Rw.d))), some (.f (.lst (hs.map D.str))), some (.f r.d), x4, x5, x6, x7, x8, x9, x10, x11, none, none, none], ⟨rfl, _, rfl⟩, ?_, ?_⟩
    · rintro i d acc e hd ⟨rfl, x11, rfl⟩
      rw [List.getElem?_map] at hd
      obtain ⟨o, ho, rfl⟩ := Option.map_eq_some_iff.mp hd
      have ow := hrs o (List.mem_of_getElem? ho)
      refine ⟨_, rfl, ?_⟩
      dsimp only [List.map_cons, List.map_nil, wipeE, setE, Tgt.js, List.set_cons_zero, List.set_cons_succ]
      walk_at "x"
      refine ⟨r, o, rfl, rw_, ow, ?_⟩
      cases hm : withinV r o with
      | true =>
        walk_at "x"
        exact ⟨by rw [take_snoc ho, List.filter_append, List.filter_cons_of_pos hm, List.filter_nil, List.map_append]; rfl, _, rfl⟩
      | false =>
        walk_at "x"
        exact ⟨by rw [take_snoc ho, List.filter_append, List.filter_cons_of_neg (by rw [hm]; decide), List.filter_nil, List.append_nil], _, rfl⟩
    rintro acc e ⟨rfl, x11, rfl⟩
    rw [List.length_map, List.take_length]
    try dsimp only [List.map_cons, List.map_nil, wipeE, List.set_cons_zero, List.set_cons_succ]
    rw [show r.d = .tup [.str r.g, .str r.h, r.p, .int r.s, .int r.u, .int r.k] from rfl]
    have ga : giverV oo rs r = ((r.g == oo) || rs.any (withinV r)) := rfl
    walk_at "x"
    refine x_neD (okPy_str rw_.g) (okPy_str (name_cp hp.hoo)) ?_
    rw [eq_strs]
    cases hc : r.g == oo with
    | true =>
      rw [hc, Bool.true_or] at ga
      walk_at "x"
      exact ⟨up_next hr0 hj ga, _, _, _, rfl⟩
    | false =>
    rw [hc, Bool.false_or] at ga
    walk_at "x"
    refine x_eqD (okPy_rows fun o h => hrs o (List.mem_filter.mp h).1) (by decide +kernel) ?_
    rw [ne_nilD]
    cases hm : rs.any (withinV r) with
    | false =>
      have em : ((rs.filter (withinV r)).map Rw.d).isEmpty = true := by rw [← Bool.not_not (List.isEmpty _), any_ne, hm]; rfl
      rw [em]
      rw [hm] at ga
      rw [all_no hr0 ga, Bool.false_and] at q
      walk_at "x"
      exact q
    | true =>
      have em : ((rs.filter (withinV r)).map Rw.d).isEmpty = false := by rw [← Bool.not_not (List.isEmpty _), any_ne, hm]; rfl
      rw [em]
      rw [hm] at ga
      walk_at "x"
      exact ⟨up_next hr0 hj ga, _, _, _, rfl⟩
  rintro e ⟨hj, x3, x10, x11, rfl⟩
  rw [List.length_map] at hj
  rw [all_yes hj, Bool.true_and] at q
  clear hj
  walk_at "x"
  refine ⟨fun i e => (∀ j x, j < i → xs[j]? = some x → grant2 x rs = true) ∧ ∃ x3 x6 x7 x8 x12 x13 x14, e = [some (.f (.tup [.str oo, .tup (ts.map Ti.d), .tup (xs.map Wi.d)])), some (.f (.tup (rs.map Rw.d))), some (.f (.lst (hs.map D.str))), x3, x4, x5, x6, x7, x8, x9, x10, x11, x12, x13, x14], ⟨fun j y h => absurd h (Nat.not_lt_zero _), _, _, _, _, _, _, _, rfl⟩, ?_, ?_⟩
  · rintro i d e hd ⟨hj, x3, x6, x7, x8, x12, x13, x14, rfl⟩
    rw [List.getElem?_map] at hd
    obtain ⟨x, hx0, rfl⟩ := Option.map_eq_some_iff.mp hd
    have xok := hp.hxs x (List.mem_of_getElem? hx0)
    rw [show x.d = .tup [.str x.a, x.p, .int x.s, .int x.u] from rfl]
    walk_at "x"
    refine ⟨by omega, fun i acc e => acc = ((rs.take i).filter (hitG x)).map Rw.d ∧ ∃ x3, e = [some (.f (.tup [.str oo, .tup (ts.map Ti.d), .tup (xs.map Wi.d)])), some (.f (.tup (rs.map Rw.d))), some (.f (.lst (hs.map D.str))), x3, x4, x5, some (.f x.p), some (.f (.int x.s)), some (.f (.int x.u)), x9, x10, x11, some (.f (.str x.a)), x13, x14], ⟨rfl, _, rfl⟩, ?_, ?_⟩
    · rintro i d acc e hd ⟨rfl, x3, rfl⟩
      rw [List.getElem?_map] at hd
      obtain ⟨r, hr, rfl⟩ := Option.map_eq_some_iff.mp hd
      have ow := hrs r (List.mem_of_getElem? hr)
      have yes : hitG x r = true → ((rs.take i).filter (hitG x)).map Rw.d ++ [r.d] = ((rs.take (i + 1)).filter (hitG x)).map Rw.d := fun h => by
        rw [take_snoc hr, List.filter_append, List.filter_cons_of_pos h, List.filter_nil, List.map_append]
        rfl
      have no : hitG x r = false → ((rs.take i).filter (hitG x)).map Rw.d = ((rs.take (i + 1)).filter (hitG x)).map Rw.d := fun h => by
        rw [take_snoc hr, List.filter_append, List.filter_cons_of_neg (by rw [h]; decide), List.filter_nil, List.append_nil]
      rw [show r.d = .tup [.str r.g, .str r.h, r.p, .int r.s, .int r.u, .int r.k] from rfl] at yes
      rw [show r.d = .tup [.str r.g, .str r.h, r.p, .int r.s, .int r.u, .int r.k] from rfl]
      refine ⟨_, rfl, ?_⟩
      dsimp only [List.map_cons, List.map_nil, wipeE, setE, Tgt.js, List.set_cons_zero, List.set_cons_succ]
      walk_at "x"
      refine x_eqD (okPy_str ow.h) (okPy_str (name_cp xok.a)) ?_
      rw [eq_strs]
      unfold hitG at yes no
      cases hb : r.h == x.a with
      | false =>
        walk_at "x"
        exact ⟨no (by rw [hb]; rfl), _, rfl⟩
      | true =>
      walk_at "x"
      refine x_ite (fun h4 => ?_) (fun h4 => ?_)
      · walk_at "x"
        refine x_ite (fun h5 => ?_) (fun h5 => ?_)
        · walk_at "x"
          exact ⟨yes (by rw [hb, h4, h5]; rfl), _, rfl⟩
        · walk_at "x"
          exact ⟨no (by rw [hb, h4, h5]; rfl), _, rfl⟩
      · walk_at "x"
        exact ⟨no (by rw [hb, h4]; rfl), _, rfl⟩
    rintro acc e ⟨rfl, x3, rfl⟩
    rw [List.length_map, List.take_length]
    try dsimp only [List.map_cons, List.map_nil, wipeE, List.set_cons_zero, List.set_cons_succ]
    have gd : grant2 x rs = (rs.filter (hitG x)).any (bearG x) := rfl
    have fl : (rs.filter (hitG x)).length ≤ 60 := Nat.le_trans (List.length_filter_le ..) hl
    have fw : ∀ r ∈ rs.filter (hitG x), r.W := fun r h => hrs r (List.mem_filter.mp h).1
    generalize rs.filter (hitG x) = fs at fl fw gd
    walk_at "x"
    refine ⟨by rw [List.length_map]; omega, fun i acc e => acc = ((fs.take i).filter (bearG x)).map Rw.d ∧ ∃ x3 x14, e = [some (.f (.tup [.str oo, .tup (ts.map Ti.d), .tup (xs.map Wi.d)])), some (.f (.tup (rs.map Rw.d))), some (.f (.lst (hs.map D.str))), x3, x4, x5, some (.f x.p), some (.f (.int x.s)), some (.f (.int x.u)), x9, x10, x11, some (.f (.str x.a)), some (.f (.lst (fs.map Rw.d))), x14], ⟨rfl, _, _, rfl⟩, ?_, ?_⟩
    · rintro i d acc e hd ⟨rfl, x3, x14, rfl⟩
      rw [List.getElem?_map] at hd
      obtain ⟨r, hr, rfl⟩ := Option.map_eq_some_iff.mp hd
      have ow := fw r (List.mem_of_getElem? hr)
      have yes : bearG x r = true → ((fs.take i).filter (bearG x)).map Rw.d ++ [r.d] = ((fs.take (i + 1)).filter (bearG x)).map Rw.d := fun h => by
        rw [take_snoc hr, List.filter_append, List.filter_cons_of_pos h, List.filter_nil, List.map_append]
        rfl
      have no : bearG x r = false → ((fs.take i).filter (bearG x)).map Rw.d = ((fs.take (i + 1)).filter (bearG x)).map Rw.d := fun h => by
        rw [take_snoc hr, List.filter_append, List.filter_cons_of_neg (by rw [h]; decide), List.filter_nil, List.append_nil]
      have bq : bearG x r = (deedsL x.p).all (memB (deedsL r.p)) := rfl
      have xp4 := deeds_four xok.p
      have dx := deeds4_tup xp4
      have dr := deeds4_tup ow.p
      have owp := ow.p
      generalize x.p = xp at dx xp4 bq ⊢
      rw [show r.d = .tup [.str r.g, .str r.h, r.p, .int r.s, .int r.u, .int r.k] from rfl] at yes
      rw [show r.d = .tup [.str r.g, .str r.h, r.p, .int r.s, .int r.u, .int r.k] from rfl]
      obtain ⟨rg, rh, rp, rs0, ru, rk⟩ := r
      obtain ⟨xd, rfl⟩ : ∃ xd, xp = .tup xd := ⟨_, dx.1⟩
      obtain ⟨rd, rfl⟩ : ∃ rd, rp = .tup rd := ⟨_, dr.1⟩
      have bq : bearG x ⟨rg, rh, .tup rd, rs0, ru, rk⟩ = xd.all (memB rd) := bq
      rw [bq] at yes no
      have dx2 : ∀ d ∈ xd, okPy d = true := dx.2.1
      have dx3 : xd.length ≤ 2 := dx.2.2.2.1
      have dr3 : okPy (.tup rd) = true := dr.2.2.1
      refine ⟨_, rfl, ?_⟩
      dsimp only [List.map_cons, List.map_nil, wipeE, setE, Tgt.js, List.set_cons_zero, List.set_cons_succ] at yes ⊢
      walk_at "x"
      refine ⟨by omega, fun j acc e => acc = ((xd.take j).filter fun y => !memB rd y) ∧ ∃ x14, e = [some (.f (.tup [.str oo, .tup (ts.map Ti.d), .tup (xs.map Wi.d)])), some (.f (.tup (rs.map Rw.d))), some (.f (.lst (hs.map D.str))), some (.f (.tup [.str rg, .str rh, .tup rd, .int rs0, .int ru, .int rk])), x4, x5, some (.f (.tup xd)), some (.f (.int x.s)), some (.f (.int x.u)), x9, x10, x11, some (.f (.str x.a)), some (.f (.lst (fs.map Rw.d))), x14], ⟨rfl, _, rfl⟩, ?_, ?_⟩
      · rintro j d acc e hd ⟨rfl, x14, rfl⟩
        refine ⟨_, rfl, ?_⟩
        dsimp only [List.map_cons, List.map_nil, wipeE, setE, Tgt.js, List.set_cons_zero, List.set_cons_succ]
        walk_at "x"
        refine x_ninT (dx2 d (List.mem_of_getElem? hd)) dr3 ?_
        walk_at "x"
        cases hm : memB rd d with
        | true =>
          walk_at "x"
          exact ⟨by rw [take_snoc hd, List.filter_append, List.filter_cons_of_neg (by rw [hm]; decide), List.filter_nil, List.append_nil], _, rfl⟩
        | false =>
          walk_at "x"
          exact ⟨by rw [take_snoc hd, List.filter_append, List.filter_cons_of_pos (by rw [hm]; rfl), List.filter_nil], _, rfl⟩
      rintro acc e ⟨rfl, x14, rfl⟩
      rw [List.take_length]
      try dsimp only [List.map_cons, List.map_nil, wipeE, List.set_cons_zero, List.set_cons_succ]
      walk_at "x"
      refine x_eqD ((fit_lst (n := 0) fun y hy => fit_deed xp4 rfl y (List.mem_filter.mp hy).1).ok (by decide)) (by decide +kernel) ?_
      rw [ne_nilD, show (xd.filter fun y => !memB rd y).isEmpty = xd.all (memB rd) from by rw [← miss_emp (g := id), List.map_id]]
      cases ha : xd.all (memB rd) with
      | false =>
        walk_at "x"
        exact ⟨no ha, _, _, rfl⟩
      | true =>
        walk_at "x"
        exact ⟨yes ha, _, _, rfl⟩
    rintro acc e ⟨rfl, x3, x14, rfl⟩
    rw [List.length_map, List.take_length]
    try dsimp only [List.map_cons, List.map_nil, wipeE, List.set_cons_zero, List.set_cons_succ]
    walk_at "x"
    refine x_eqD (okPy_rows fun o h => fw o (List.mem_filter.mp h).1) (by decide +kernel) ?_
    rw [ne_nilD]
    cases hm : fs.any (bearG x) with
    | false =>
      have em : ((fs.filter (bearG x)).map Rw.d).isEmpty = true := by rw [← Bool.not_not (List.isEmpty _), any_ne, hm]; rfl
      rw [em]
      rw [hm] at gd
      rw [all_no hx0 gd] at q
      walk_at "x"
      exact q
    | true =>
      have em : ((fs.filter (bearG x)).map Rw.d).isEmpty = false := by rw [← Bool.not_not (List.isEmpty _), any_ne, hm]; rfl
      rw [em]
      rw [hm] at gd
      walk_at "x"
      exact ⟨up_next hx0 hj gd, _, _, _, _, _, _, _, rfl⟩
  rintro e ⟨hj, x3, x6, x7, x8, x12, x13, x14, rfl⟩
  rw [List.length_map] at hj
  rw [all_yes hj] at q
  walk_at "x"
  exact q

end
end K75

namespace K75
open PySem PySem.Spec PyProof.Rows L2 Lk Evl Fx



local macro_rules | `(tactic| walk_at "sz") => `(tactic| first
  | exact Nat.le_of_ble_eq_true rfl
  | assumption
  | exact small_sz (Nat.le_of_ble_eq_true rfl)
  | (simp only [List.length_cons, List.length_nil, List.length_map, List.length_append]; first | omega | exact small_sz (by omega)))
local macro_rules | `(tactic| walk_at "x1") => `(tactic| first
  | with_reducible refine x_seq ?_
  | (with_reducible show wVar _ _ _); first | refine x_varF rfl ?_ | refine x_varO rfl ?_ | refine x_varV rfl ?_
  | with_reducible refine x_c ?_
  | with_reducible refine x_exf ?_
  | with_reducible refine x_excd ?_
  | (with_reducible show ∃ d1, Sl.cd (Sl.vw _) = some d1 ∧ _); refine x_excV rfl ?_
  | (with_reducible show ∃ d1, Sl.cd (Sl.own _) = some d1 ∧ _); refine x_excO rfl ?_
  | with_reducible refine x_binP ?_
  | with_reducible refine x_bin ?_
  | with_reducible refine x_adC ?_
  | with_reducible refine x_adN ?_
  | with_reducible refine x_lst ?_
  | with_reducible refine x_tup ?_
  | with_reducible refine x_lstO ?_
  | (with_reducible refine x_and (p := _ ≤ sizeLine) ?h ?_); (case h => walk_at "sz")
  | with_reducible refine x_callF ?_
  | with_reducible refine x_callL ?_
  | with_reducible refine x_listO ?_
  | (with_reducible show wCallU _ _ _ _ _); refine x_callU rfl ?_
  | with_reducible refine x_callV ?_
  | with_reducible refine x_join ?_
  | with_reducible refine x_waD ?_
  | with_reducible refine x_lc ?_
  | with_reducible refine x_lc2 ?_
  | with_reducible refine x_lenSets ?_
  | (with_reducible show wApp _ _ _ _); refine x_app rfl ?_
  | (with_reducible show wBinV _ _ _ _ _); refine x_binV rfl ?_
  | (with_reducible show wPopD _ _ _ _); refine x_popD rfl ?_
  | (with_reducible show wCatV _ _ _ _); refine x_catV rfl ?_
  | with_reducible refine x_slN2 ?_
  | with_reducible refine x_sortedSets ?_
  | with_reducible refine x_tplL ?_
  | with_reducible refine x_tplT ?_
  | with_reducible refine x_isB ?_
  | with_reducible refine x_r1 ?_
  | with_reducible refine x_r2 ?_
  | (with_reducible refine x_r1e ?h0 ?h1 ?_); (case h0 => omega); (case h1 => omega)
  | with_reducible refine x_iL ?_
  | with_reducible refine x_iT ?_
  | with_reducible refine x_iS ?_
  | with_reducible refine x_iE ?_
  | with_reducible refine x_iEe ?_
  | with_reducible refine x_yes ?_
  | with_reducible refine x_for ?_
  | (with_reducible show wLot _ [D.int _] _); (refine' x_lot (by assumption) ?h1 ?h2 ?h3 ?_); (case h1 => omega); (case h2 => first | decide | omega); (case h3 => first | decide | omega)
  | (with_reducible show ∃ o, _ = some (some (Sl.own o)) ∧ _); refine x_exO rfl ?_
  | with_reducible refine x_exo ?_
  | with_reducible refine x_ret ?_
  | with_reducible refine x_set ?_
  | with_reducible refine x_fin ?_
  | with_reducible refine x_fino ?_
  | (with_reducible refine x_and (p := _ < List.length _) ?h ?_); (case h => exact Nat.le_of_ble_eq_true rfl); (try dsimp only [List.set_cons_succ, List.set_cons_zero])
  | with_reducible refine x_next ?_
  | with_reducible refine x_retN ?_
  | with_reducible refine x_drop ?_
  | with_reducible refine x_asg ?_
  | (with_reducible refine x_gtp ?h ?_); (case h => rfl)
  | with_reducible refine x_gcons ?_
  | with_reducible refine x_gnil ?_
  | (with_reducible refine x_gn ?h ?_); (case h => exact Nat.le_of_ble_eq_true rfl); (try dsimp only [List.set_cons_succ, List.set_cons_zero])
  | with_reducible refine x_ifS ?_
  | with_reducible refine x_if ?_
  | with_reducible refine x_itT ?_
  | with_reducible refine x_itF ?_
  | with_reducible refine x_iteN ?_
  | with_reducible refine x_tru ?_
  | with_reducible refine x_tB ?_
  | with_reducible refine x_dtB ?_
  | with_reducible refine x_dtN ?_
  | with_reducible refine x_exb ?_
  | with_reducible refine x_exdb ?_
  | with_reducible refine x_tand ?_
  | with_reducible refine x_tor ?_
  | with_reducible refine x_tnot ?_
  | with_reducible refine x_and2 ?_
  | with_reducible refine x_or2 ?_
  | with_reducible refine x_not2 ?_
  | with_reducible refine x_chain ?_
  | with_reducible refine x_sub ?_
  | with_reducible refine x_addI ?_
  | (with_reducible refine x_addS ?h ?_); (case h => walk_at "sz")
  | (with_reducible refine x_addL ?h ?_); (case h => walk_at "sz")
  | (with_reducible refine x_addT ?h ?_); (case h => walk_at "sz")
  | with_reducible refine x_lt ?_
  | with_reducible refine x_le ?_
  | with_reducible refine x_gt ?_
  | with_reducible refine x_ge ?_
  | with_reducible refine x_ltS ?_
  | with_reducible refine x_eqI ?_
  | with_reducible refine x_neI ?_
  | with_reducible refine x_allSg ?_
  | with_reducible refine x_m0 ?_
  | with_reducible refine x_lstT ?_
  | with_reducible refine x_lstL ?_
  | with_reducible refine x_strB ?_
  | with_reducible refine x_strN ?_
  | with_reducible refine x_strS ?_
  | with_reducible refine x_isT ?_
  | with_reducible refine x_isI ?_
  | with_reducible refine x_neg ?_
  | with_reducible refine x_un ?_
  | (with_reducible refine x_pow ?h ?_); (case h => exact ⟨by decide, by decide +kernel⟩)
  | (with_reducible refine x_mod ?h ?_); (case h => first | decide | omega)
  | (with_reducible refine x_mul ?h ?_); (case h => exact mul_ok (by first | decide | omega) (by first | decide | omega))
  | (with_reducible refine x_div ?h ?_); (case h => exact div_ok (by first | decide | omega) (by first | decide | omega))
  | with_reducible refine x_ipA ?_
  | (with_reducible show wAugL _ _ _ _ _ _); refine x_augL rfl ?_
  | (with_reducible show wAug _ _ _ _ _); refine x_aug rfl ?_
  | (with_reducible show ∃ k' ds d, Sl.f (D.int _) = Sl.f (D.int k') ∧ _); refine x_augL1 rfl (by decide) rfl ?_
  | (with_reducible show ∃ k' j ds, Sl.f (D.int _) = Sl.f (D.int k') ∧ _ = some (some (Sl.own (O.lst ds))) ∧ ixN _ k' = some j ∧ _); refine x_setL1 rfl rfl ?_; (try dsimp only [List.set_cons_succ, List.set_cons_zero])
  | (with_reducible show ∃ ds j, _ = some (some (Sl.own (O.lst ds))) ∧ ixN _ _ = some j ∧ _); refine x_augL2 rfl rfl ?_; (try dsimp only [List.set_cons_succ, List.set_cons_zero])
  | (with_reducible show gSetL _ _ _ _ _); refine x_setL rfl ?_
  | (with_reducible show dIx (D.lst _) (D.int _) _); refine x_ixL rfl ?_
  | (with_reducible show dIx (D.tup _) (D.int _) _); refine x_ixT rfl ?_
  | with_reducible refine x_cb ?_
  | (with_reducible show wCB1 _ _ _ _); refine x_cb1 rfl rfl ?_
  | with_reducible refine x_fm ?_
  | with_reducible refine x_exl ?_
  | with_reducible refine x_ext ?_
  | with_reducible refine x_exs ?_
  | with_reducible refine x_exi ?_
  | with_reducible refine x_sl ?_
  | with_reducible refine x_slN ?_
  | with_reducible refine x_slS ?_
  | with_reducible refine x_frz ?_
  | with_reducible refine x_frL ?_
  | with_reducible refine x_revT ?_
  | with_reducible refine x_revL ?_
  | with_reducible refine x_splitO ?_
  | (with_reducible show wSlO _ _ _ _ _); refine x_slO rfl ?_
  | (with_reducible show ∃ ds2, _ = some (some (Sl.own (O.lst ds2))) ∧ _); refine x_exOl rfl ?_
  | with_reducible refine x_dictO ?_
  | with_reducible refine x_psC ?_
  | with_reducible refine x_psN ?_
  | with_reducible refine x_get ?_
  | (with_reducible show gSetSl _ _ _ _ _ _); refine x_setSl rfl ?_
  | with_reducible refine x_split ?_
  | with_reducible refine x_isN1 ?_
  | with_reducible refine x_isN0 rfl ?_
  | with_reducible refine x_iZ ?_
  | with_reducible refine x_zT ?_
  | with_reducible refine x_zL ?_
  | with_reducible refine x_stp ?_
  | with_reducible refine x_js ?_
  | with_reducible refine x_jsC ?_
  | with_reducible refine x_jsN ?_
  | with_reducible refine x_fmt ?_
  | with_reducible refine x_callFX ?_
  | (with_reducible refine x_glp ?h ?_); (case h => rfl)
  | with_reducible refine x_raiseR ?_
  | with_reducible refine x_row ?_
  | with_reducible refine x_lenL ?_
  | with_reducible refine x_lenT ?_
  | with_reducible refine x_lenD ?_
  | (with_reducible refine x_lenS ?h ?_); (case h => walk_at "sz")
  | with_reducible refine x_max ?_
  | with_reducible refine x_min ?_
  | with_reducible refine x_intI ?_
  | with_reducible refine x_intB ?_
  | (with_reducible refine x_isInt ?h ?_); (case h => first | assumption | exact part_ty (by assumption) | (intro _ hh; cases hh; done))
  | (with_reducible refine x_isBl ?h ?_); (case h => first | assumption | exact part_ty (by assumption) | (intro _ hh; cases hh; done))
  | (with_reducible refine x_isStr ?h ?_); (case h => first | assumption | exact part_ty (by assumption) | (intro _ hh; cases hh; done))
  | (with_reducible refine x_isTup ?h ?_); (case h => first | assumption | exact part_ty (by assumption) | (intro _ hh; cases hh; done))
  | (with_reducible refine x_isLst ?h ?_); (case h => first | assumption | exact part_ty (by assumption) | (intro _ hh; cases hh; done))
  | (with_reducible refine x_isDic ?h ?_); (case h => first | assumption | exact part_ty (by assumption) | (intro _ hh; cases hh; done))
  | (with_reducible refine x_itTe ?e ?_); (case e => rfl)
  | (with_reducible refine x_itFe ?e ?_); (case e => rfl)
  | with_reducible refine x_dnewO ?_
  | with_reducible refine x_dput ?_
  | with_reducible refine x_dix ?_
  | with_reducible refine x_sortedD ?_
  | with_reducible refine x_star ?_
  | with_reducible refine x_starT ?_
  | with_reducible refine x_frzD ?_
  | with_reducible refine x_sw ?_
  | with_reducible refine x_cnt ?_
  | with_reducible refine x_waC ?_
  | with_reducible refine x_waN ?_
  | with_reducible refine x_lenDD ?_
  | with_reducible refine x_allX ?_
  | (with_reducible show wFz _ _ _ _); refine x_fz rfl ?_
  | (with_reducible show wFzS _ _ _ _); refine x_fzS rfl ?_
  | (with_reducible show wFzO _ _ _ _); refine x_fzO rfl ?_
  | (with_reducible show wiK _ _ _); refine x_iK rfl ?_
  | (with_reducible show wiIt _ _ _); refine x_iIt rfl ?_
  | with_reducible refine x_iE1 ?_
  | with_reducible refine x_forR ?_
  | (with_reducible show wDIxV _ _ _ _); refine x_dixV rfl (cd_dicO _) ?_
  | (with_reducible show wDPop _ _ _ _); refine x_dpop rfl ?_
  | with_reducible refine x_pickO ?_
  | (with_reducible show wExt _ _ _ _); refine x_extO rfl ?_
  | with_reducible refine x_sortedR ?_
  | with_reducible refine x_sortedL ?_
  | with_reducible refine x_ixSt ?_
  | (with_reducible show wiVal _ _ _); refine x_iVal rfl ?_
  | with_reducible refine x_dictP ?_
  | with_reducible refine x_dictZip ?_
  | with_reducible refine x_revS ?_
  | with_reducible refine x_par ?_
  | (with_reducible show wIsiV _ _ _ _ _); refine x_isiV rfl ?_
  | ((with_reducible show _ ∧ _); refine And.intro (Nat.le_of_ble_eq_true rfl) ?_))
local macro_rules | `(tactic| walk_at "x") => `(tactic| repeat (walk_at "x1"))

section
variable {P : Program} {w : World} {K : PySem.W.Frag} {mg : Str → Option Value} {base : Heap} {tabs : List Addr}
/-! ### cases: who settles whom -/
theorem all_and2 {α : Type} {f g : α → Bool} : ∀ {l : List α}, l.all (fun x => f x && g x) = (l.all f && l.all g)
  | [] => rfl
  | x :: l => by
    rw [List.all_cons, List.all_cons, List.all_cons, all_and2]
    cases f x <;> cases g x <;> cases l.all f <;> cases l.all g <;> rfl
theorem hit_none {x : Wi} : ∀ {rs : List Rw}, x.a ∉ rs.map (·.h) → rs.filter (hitG x) = []
  | [], _ => rfl
  | r :: rs, h => by
    rw [List.map_cons, List.mem_cons, not_or] at h
    rw [List.filter_cons, if_neg (by rw [show hitG x r = ((r.h == x.a) && (decide (r.s ≤ x.s) && decide (x.u ≤ r.u))) from rfl, beq_false_of_ne (fun e => h.1 e.symm), Bool.false_and]; decide)]
    exact hit_none h.2
theorem grant_eq {x : Wi} : ∀ {rs : List Rw}, (rs.map (·.h)).Nodup → grant2 x rs = grantV x rs
  | [], _ => rfl
  | r :: rs, nd => by
    have nd := List.nodup_cons.mp nd
    unfold grantV
    by_cases h : r.h = x.a
    · rw [if_pos h]
      unfold grant2
      rw [List.filter_cons, hit_none (by rw [← h]; exact nd.1), show hitG x r = ((r.h == x.a) && (decide (r.s ≤ x.s) && decide (x.u ≤ r.u))) from rfl, beq_iff_eq.mpr h, Bool.true_and]
      unfold fitV
      cases decide (r.s ≤ x.s) <;> cases decide (x.u ≤ r.u) <;> simp [bearG]
    · rw [if_neg h]
      unfold grant2
      rw [List.filter_cons, if_neg (by rw [show hitG x r = ((r.h == x.a) && (decide (r.s ≤ x.s) && decide (x.u ≤ r.u))) from rfl, beq_false_of_ne h, Bool.false_and]; decide)]
      exact grant_eq nd.2
theorem plan_law {oo : Str} {ts : List Ti} {xs : List Wi} {rs : List Rw} : planV oo ts xs rs = (rs.all formB && lplanV oo ts xs rs) := by
  unfold planV lplanV
  cases h : risB (rs.map (·.h)) with
  | false => simp only [Bool.false_and]
  | true =>
    have nd : (rs.map (·.h)).Nodup := of_decide_eq_true (Bool.and_eq_true_iff.mp (show (sortedS (rs.map (·.h)) && decide (rs.map (·.h)).Nodup) = true from h)).2
    rw [all_and2, show (fun x => grant2 x rs) = fun x => grantV x rs from funext fun x => grant_eq nd]
    simp only [Bool.and_assoc]
abbrev Case := List (Str × Str)
def cP (cs : Case) : List (Key × D) := cs.map fun p => (.inr p.1, .str p.2)
def cD (cs : Case) : D := dicD (cP cs)
def look (cs : Case) (x : Str) : Option Str := cs.lookup x
theorem getP_case (cs : Case) (x : Str) : getP (cP cs) (.inr x) = (look cs x).map D.str := by
  induction cs with
  | nil => rfl
  | cons p cs ih =>
    obtain ⟨a, b⟩ := p
    show getP ((.inr a, .str b) :: cP cs) (.inr x) = (List.lookup x ((a, b) :: cs)).map D.str
    rw [List.lookup_cons]
    unfold getP at ih ⊢
    by_cases h : x = a
    · subst h
      rw [beq_self_eq_true, List.find?_cons_of_pos (by simp)]
      rfl
    · rw [beq_false_of_ne h, List.find?_cons_of_neg (by simpa using fun e => h e.symm)]
      exact ih
theorem look_mem {cs : Case} {x g : Str} (h : look cs x = some g) : (x, g) ∈ cs := PySem.mem_of_lookup h
theorem look_of {cs : Case} (nd : (cs.map (·.1)).Nodup) {x g : Str} (h : (x, g) ∈ cs) : look cs x = some g := by
  induction cs with
  | nil => cases h
  | cons p cs ih =>
    obtain ⟨a, b⟩ := p
    have nd2 := List.nodup_cons.mp nd
    unfold look
    rw [List.lookup_cons]
    rcases List.mem_cons.mp h with e | h
    · cases e
      rw [beq_self_eq_true]
    · rw [beq_false_of_ne (fun e => nd2.1 (List.mem_map.mpr ⟨_, h, e⟩))]
      exact ih nd2.2 h
/-- the way from x up by givers -/
def Way (cs : Case) : Str → List Str → Prop
  | x, [] => look cs x = none
  | x, y :: l => x = y ∧ ∃ g, look cs x = some g ∧ Way cs g l
theorem way_uniq {cs : Case} : ∀ {l l' : List Str} {x : Str}, Way cs x l → Way cs x l' → l = l'
  | [], [], _, _, _ => rfl
  | [], y :: l', x, h, ⟨_, g, h2, _⟩ => by rw [show look cs x = none from h] at h2; cases h2
  | y :: l, [], x, ⟨_, g, h2, _⟩, h => by rw [show look cs x = none from h] at h2; cases h2
  | y :: l, y' :: l', x, ⟨e, g, h2, h3⟩, ⟨e', g', h2', h3'⟩ => by
    rw [h2] at h2'
    cases h2'
    rw [← e, ← e', way_uniq h3 h3']
theorem way_keys {cs : Case} : ∀ {l : List Str} {x : Str}, Way cs x l → ∀ y ∈ l, ∃ g, look cs y = some g
  | [], _, _, y, h => by cases h
  | z :: l, x, ⟨e, g, h2, h3⟩, y, h => by
    rcases List.mem_cons.mp h with rfl | h
    · exact ⟨g, by rw [← e]; exact h2⟩
    · exact way_keys h3 y h
def HasW (cs : Case) (x : Str) : Prop := ∃ l, Way cs x l ∧ l.Nodup
open Classical in
noncomputable def wayOf (cs : Case) (x : Str) : List Str := if h : HasW cs x then choose h else []
theorem wayOf_is {cs : Case} {x : Str} (h : HasW cs x) : Way cs x (wayOf cs x) ∧ (wayOf cs x).Nodup := by
  unfold wayOf
  rw [dif_pos h]
  exact Classical.choose_spec h
theorem wayOf_eq {cs : Case} {x : Str} {l : List Str} (h : Way cs x l) (n : l.Nodup) : wayOf cs x = l := way_uniq (wayOf_is ⟨l, h, n⟩).1 h
/-- behind y comes its giver -/
theorem way_next {cs : Case} : ∀ {l : List Str} {x y g : Str} {i : Nat}, Way cs x l → l[i]? = some y → look cs y = some g → (∃ g2, look cs g = some g2) → l[i + 1]? = some g
  | [], _, _, _, i, _, h, _, _ => by rw [List.getElem?_nil] at h; cases h
  | z :: l, x, y, g, 0, ⟨e, g1, h2, h3⟩, h, hy, ⟨g2, hg⟩ => by
    have ez : z = y := by simpa using h
    rw [← ez, ← e, h2] at hy
    have eg : g1 = g := Option.some.inj hy
    rw [eg] at h3
    cases l with
    | nil => rw [show look cs g = none from h3] at hg; cases hg
    | cons a l => rw [h3.1]; rfl
  | z :: l, x, y, g, i + 1, ⟨e, g1, h2, h3⟩, h, hy, hg => way_next (l := l) (i := i) h3 h hy hg
theorem way_self {cs : Case} {l : List Str} {x g : Str} (h : Way cs x l) (hg : look cs x = some g) : l[0]? = some x := by
  cases l with
  | nil => rw [show look cs x = none from h] at hg; cases hg
  | cons a l => rw [h.1]; rfl
noncomputable def bel (cs : Case) (a : Str) (x : Wi) : Bool := (look cs x.a).isSome && (wayOf cs x.a).contains a
noncomputable def below (xs : List Wi) (cs : Case) (a : Str) : List Wi := xs.filter (bel cs a)
def Acy (cs : Case) : Prop := ∀ x g, look cs x = some g → HasW cs x
theorem way_len {cs : Case} {x : Str} (h : HasW cs x) : (wayOf cs x).length ≤ cs.length := by
  obtain ⟨h1, h2⟩ := wayOf_is h
  have := nodup_le (l := wayOf cs x) (m := cs.map (·.1)) h2 fun y hy => by
    obtain ⟨g, hg⟩ := way_keys h1 y hy
    exact List.mem_map.mpr ⟨(y, g), look_mem hg, rfl⟩
  rwa [List.length_map] at this
def idx (a : Str) (l : List Str) : Nat := l.idxOf a
theorem idx_at {a : Str} {l : List Str} {i : Nat} (nd : l.Nodup) (h : l[i]? = some a) : idx a l = i := by
  obtain ⟨hi, e⟩ := List.getElem?_eq_some_iff.mp h
  unfold idx
  rw [← e]
  exact nd.idxOf_getElem i hi
theorem at_idx {a : Str} {l : List Str} (h : a ∈ l) : l[idx a l]? = some a := by
  unfold idx
  rw [List.getElem?_eq_getElem (List.idxOf_lt_length_of_mem h), List.getElem_idxOf]
noncomputable def pStep (cs : Case) (a : Str) (f : Nat) (o : Str) : Nat := if (wayOf cs o).contains a = true then (if idx a (wayOf cs o) > f then idx a (wayOf cs o) else f) else f
noncomputable def passF (cs : Case) (a : Str) (os : List Str) : Nat := os.foldl (pStep cs a) 0
noncomputable def passed (cs : Case) (a : Str) : Nat := passF cs a (cs.map (·.1))
theorem fold_ge {cs : Case} {a : Str} : ∀ {os : List Str} {f : Nat}, f ≤ os.foldl (pStep cs a) f
  | [], f => Nat.le_refl _
  | o :: os, f => by
    refine Nat.le_trans ?_ (fold_ge (os := os))
    unfold pStep
    split
    · split <;> omega
    · exact Nat.le_refl _
theorem fold_mem {cs : Case} {a : Str} : ∀ {os : List Str} {f : Nat} {o : Str}, o ∈ os → a ∈ wayOf cs o → idx a (wayOf cs o) ≤ os.foldl (pStep cs a) f
  | z :: os, f, o, h, ha => by
    rcases List.mem_cons.mp h with rfl | h
    · refine Nat.le_trans ?_ (fold_ge (os := os))
      unfold pStep
      rw [if_pos (by simpa using ha)]
      split <;> omega
    · exact fold_mem (os := os) h ha
theorem fold_is {cs : Case} {a : Str} : ∀ {os : List Str} {f : Nat}, os.foldl (pStep cs a) f = f ∨ ∃ o ∈ os, a ∈ wayOf cs o ∧ os.foldl (pStep cs a) f = idx a (wayOf cs o)
  | [], f => .inl rfl
  | z :: os, f => by
    rw [List.foldl_cons]
    rcases fold_is (cs := cs) (a := a) (os := os) (f := pStep cs a f z) with h | ⟨o, h1, h2, h3⟩
    · rw [h]
      unfold pStep
      split
      · rename_i hc
        split
        · exact .inr ⟨z, List.mem_cons_self .., by simpa using hc, rfl⟩
        · exact .inl rfl
      · exact .inl rfl
    · exact .inr ⟨o, List.mem_cons_of_mem _ h1, h2, h3⟩
/-- givers settled, each along a tie, as a case says it -/
structure CsOk (oo : Str) (cs : Case) : Prop where
  nd : (cs.map (·.1)).Nodup
  a : ∀ p ∈ cs, nameB (.str p.1) = true
  b : ∀ p ∈ cs, nameB (.str p.2) = true
  ne : ∀ p ∈ cs, p.2 ≠ p.1
  no : ∀ p ∈ cs, p.1 ≠ oo
  len : cs.length ≤ 5
def Closed (oo : Str) (xs : List Wi) (cs : Case) : Prop := (∀ x ∈ xs, ∃ g, look cs x.a = some g) ∧ ∀ p ∈ cs, p.2 = oo ∨ ∃ g, look cs p.2 = some g
def IsMin (s : Int) (b : List Wi) : Prop := s ∈ b.map (·.s) ∧ ∀ x ∈ b, s ≤ x.s
def IsMax (u : Int) (b : List Wi) : Prop := u ∈ b.map (·.u) ∧ ∀ x ∈ b, x.u ≤ u
def Fits (ts : List Ti) (xs : List Wi) (cs : Case) : Prop := Acy cs ∧ ∀ a g, look cs a = some g → ∀ s u, IsMin s (below xs cs a) → IsMax u (below xs cs a) → tieV ts ⟨g, a, .non, s, u, 0⟩ = true
def FitsB (xs : List Wi) (cs : Case) : Prop := ∀ a g, look cs a = some g → below xs cs a ≠ []
def lookS : D := .str "look"
def setS : D := .str "set"
def dsOf (b : List Wi) : List D := [lookS, setS].filter fun d => b.any fun x => memB (deedsL x.p) d
structure RowOf (xs : List Wi) (cs : Case) (r : Rw) : Prop where
  g : look cs r.h = some r.g
  p : r.p = .tup (dsOf (below xs cs r.h))
  s : IsMin r.s (below xs cs r.h)
  u : IsMax r.u (below xs cs r.h)
  k : r.k = (passed cs r.h : Nat)
theorem min_uniq {s t : Int} {b : List Wi} (h : IsMin s b) (g : IsMin t b) : s = t := by
  obtain ⟨x, hx, e⟩ := List.mem_map.mp h.1
  obtain ⟨y, hy, f⟩ := List.mem_map.mp g.1
  have a1 := h.2 y hy
  have a2 := g.2 x hx
  omega
theorem max_uniq {s t : Int} {b : List Wi} (h : IsMax s b) (g : IsMax t b) : s = t := by
  obtain ⟨x, hx, e⟩ := List.mem_map.mp h.1
  obtain ⟨y, hy, f⟩ := List.mem_map.mp g.1
  have a1 := h.2 y hy
  have a2 := g.2 x hx
  omega
theorem mem_str {l : List D} {s : Str} (h : D.str s ∈ l) : memB l (.str s) = true := by
  obtain ⟨j, hj, e⟩ := List.getElem_of_mem h
  unfold memB
  rw [List.any_eq_true]
  refine ⟨PyData.str s, List.mem_of_getElem? (i := j) (by rw [pyL_get, List.getElem?_eq_getElem hj, e]; rfl), ?_⟩
  exact (eq_strs (x := s) (y := s)).trans (beq_self_eq_true s)
theorem below_sub {xs : List Wi} {cs : Case} (ac : Acy cs) {a g g2 : Str} (h : look cs a = some g) (h2 : look cs g = some g2) {x : Wi} (hx : x ∈ below xs cs a) : x ∈ below xs cs g := by
  obtain ⟨h3, h4⟩ := List.mem_filter.mp hx
  obtain ⟨h5, h6⟩ := Bool.and_eq_true_iff.mp (show ((look cs x.a).isSome && (wayOf cs x.a).contains a) = true from h4)
  obtain ⟨z, hz⟩ := Option.isSome_iff_exists.mp h5
  have hw := wayOf_is (ac _ _ hz)
  have ha : a ∈ wayOf cs x.a := by simpa using h6
  have := way_next hw.1 (at_idx ha) h ⟨g2, h2⟩
  refine List.mem_filter.mpr ⟨h3, ?_⟩
  show ((look cs x.a).isSome && (wayOf cs x.a).contains g) = true
  rw [h5, Bool.true_and]
  simpa using List.mem_of_getElem? this
theorem passed_lt {cs : Case} (ac : Acy cs) {a g g2 : Str} (h : look cs a = some g) (h2 : look cs g = some g2) : passed cs a < passed cs g := by
  have step : ∀ {o z : Str} {i : Nat}, look cs o = some z → (wayOf cs o)[i]? = some a → i + 1 ≤ passed cs g := fun {o z i} ho hi => by
    have hw := wayOf_is (ac _ _ ho)
    have h3 := way_next hw.1 hi h ⟨g2, h2⟩
    rw [← idx_at hw.2 h3]
    exact fold_mem (List.mem_map.mpr ⟨(o, z), look_mem ho, rfl⟩) (List.mem_of_getElem? h3)
  rcases fold_is (cs := cs) (a := a) (os := cs.map (·.1)) (f := 0) with e | ⟨o, h3, h4, e⟩
  · rw [show passed cs a = 0 from e]
    exact step h (way_self (wayOf_is (ac _ _ h)).1 h)
  · rw [show passed cs a = _ from e]
    obtain ⟨p, hp, rfl⟩ := List.mem_map.mp h3
    obtain ⟨z, hz⟩ : ∃ z, look cs p.1 = some z := by
      unfold look
      cases hl : cs.lookup p.1 with
      | some z => exact ⟨z, rfl⟩
      | none =>
        rw [List.lookup_eq_none_iff] at hl
        have := hl p hp
        simp at this
    exact step hz (at_idx h4)
theorem passed_le {oo : Str} {cs : Case} (ok : CsOk oo cs) (ac : Acy cs) {a : Str} : passed cs a ≤ 6 := by
  rcases fold_is (cs := cs) (a := a) (os := cs.map (·.1)) (f := 0) with e | ⟨o, h3, h4, e⟩
  · rw [show passed cs a = 0 from e]
    omega
  · rw [show passed cs a = _ from e]
    obtain ⟨p, hp, rfl⟩ := List.mem_map.mp h3
    have h5 := way_len (ac p.1 p.2 (look_of ok.nd hp))
    have h6 : idx a (wayOf cs p.1) < (wayOf cs p.1).length := List.idxOf_lt_length_of_mem h4
    have := ok.len
    omega
theorem dsOf_cases (b : List Wi) : dsOf b = [] ∨ dsOf b = [lookS] ∨ dsOf b = [setS] ∨ dsOf b = [lookS, setS] := by
  unfold dsOf
  rw [List.filter_cons, List.filter_cons, List.filter_nil]
  split <;> split <;> simp
theorem dsOf_mem {b : List Wi} {x : Wi} (hx : x ∈ b) (ok : x.Ok) {d : D} (hd : d ∈ deedsL x.p) : ∃ s, d = .str s ∧ d ∈ dsOf b := by
  have key : d = lookS ∨ d = setS := by
    have hp := ok.p
    generalize x.p = p at hp hd
    rcases List.mem_cons.mp hp with rfl | hp
    · exact .inl (List.mem_singleton.mp hd)
    rcases List.mem_cons.mp hp with rfl | hp
    · exact .inr (List.mem_singleton.mp hd)
    rw [List.mem_singleton.mp hp] at hd
    simpa using (show d ∈ [lookS, setS] from hd)
  have hm : ∀ s : Str, d = .str s → (b.any fun x => memB (deedsL x.p) d) = true := fun s e => by
    rw [List.any_eq_true]
    exact ⟨x, hx, by rw [e] at hd ⊢; exact mem_str hd⟩
  rcases key with e | e
  · exact ⟨"look", e, List.mem_filter.mpr ⟨by rw [e]; simp, hm _ e⟩⟩
  · exact ⟨"set", e, List.mem_filter.mpr ⟨by rw [e]; simp, hm _ e⟩⟩
theorem dsOf_ne {b : List Wi} (ok : ∀ x ∈ b, x.Ok) (h : b ≠ []) : D.tup (dsOf b) ∈ allDeeds := by
  cases b with
  | nil => exact absurd rfl h
  | cons x b =>
    have hp := (ok x (List.mem_cons_self ..)).p
    have hd : ∃ d, d ∈ deedsL x.p := by
      generalize x.p = p at hp
      rcases List.mem_cons.mp hp with rfl | hp
      · exact ⟨_, List.mem_cons_self ..⟩
      rcases List.mem_cons.mp hp with rfl | hp
      · exact ⟨_, List.mem_cons_self ..⟩
      rw [List.mem_singleton.mp hp]
      exact ⟨_, List.mem_cons_self ..⟩
    obtain ⟨d, hd⟩ := hd
    obtain ⟨s, _, hm⟩ := dsOf_mem (List.mem_cons_self ..) (ok x (List.mem_cons_self ..)) hd
    rcases dsOf_cases (x :: b) with e | e | e | e
    · rw [e] at hm; cases hm
    · rw [e]; exact List.mem_cons_self ..
    · rw [e]; exact List.mem_cons_of_mem _ (List.mem_cons_self ..)
    · rw [e]; exact List.mem_cons_of_mem _ (List.mem_cons_of_mem _ (List.mem_cons_self ..))
theorem grantV_row {x : Wi} : ∀ {rs : List Rw} {r : Rw}, (rs.map (·.h)).Nodup → r ∈ rs → r.h = x.a → grantV x rs = fitV x r
  | z :: rs, r, nd, hr, e => by
    have nd := List.nodup_cons.mp nd
    unfold grantV
    rcases List.mem_cons.mp hr with rfl | hr
    · rw [if_pos e]
    · rw [if_neg (fun e2 => nd.1 (List.mem_map.mpr ⟨r, hr, by rw [e]; exact e2.symm⟩))]
      exact grantV_row nd.2 hr e
section
variable {oo : Str} {ts : List Ti} {xs : List Wi} {cs : Case}
theorem row_W (tr : TrOk oo ts xs) (ok : CsOk oo cs) (fb : FitsB xs cs) {r : Rw} (h : RowOf xs cs r) : r.W := by
  have hm := look_mem h.g
  have a1 := ok.a _ hm
  have b1 := ok.b _ hm
  refine ⟨name_cp b1, Nat.le_trans (name_len b1) (by decide), name_cp a1, Nat.le_trans (name_len a1) (by decide), ?_⟩
  rw [h.p]
  exact deeds_four (dsOf_ne (fun x hx => tr.hxs x (List.mem_filter.mp hx).1) (fb _ _ h.g))
theorem row_form (tr : TrOk oo ts xs) (ok : CsOk oo cs) (fb : FitsB xs cs) (ac : Acy cs) {r : Rw} (h : RowOf xs cs r) : formB r = true := by
  have hm := look_mem h.g
  have bo : ∀ x ∈ below xs cs r.h, x.Ok := fun x hx => tr.hxs x (List.mem_filter.mp hx).1
  rw [formB_law, ok.b _ hm, ok.a _ hm, beq_false_of_ne (ok.ne _ hm), h.p, (by decide +kernel : ∀ p ∈ allDeeds, deedsB p = true) _ (dsOf_ne bo (fb _ _ h.g)), h.k]
  have hk := passed_le ok ac (a := r.h)
  obtain ⟨x, hx, e1⟩ := List.mem_map.mp h.s.1
  obtain ⟨y, hy, e2⟩ := List.mem_map.mp h.u.1
  have o1 := bo x hx
  have o2 := bo y hy
  have l1 := h.u.2 x hx
  have z1 := o1.s0
  have z2 := o1.su
  have z3 := o2.u1
  rw [span_ok (by omega) (by omega) (by omega), decide_eq_true (by omega : (0 : Int) ≤ (passed cs r.h : Nat)), decide_eq_true (by omega : ((passed cs r.h : Nat) : Int) ≤ 6)]
  rfl
theorem plan_rows (tr : TrOk oo ts xs) (ok : CsOk oo cs) (cl : Closed oo xs cs) (ft : Fits ts xs cs) (fb : FitsB xs cs) {rs : List Rw} {ys : List Str} (hy : rs.map (·.h) = ys) (pm : ys.Perm (cs.map (·.1))) (so : sortedS ys = true) (hr : ∀ r ∈ rs, RowOf xs cs r) : planV oo ts xs rs = true := by
  have nd : ys.Nodup := pm.nodup_iff.mpr ok.nd
  have at_ : ∀ {a g : Str}, look cs a = some g → ∃ r ∈ rs, r.h = a := fun {a g} h => by
    have : a ∈ rs.map (·.h) := by rw [hy]; exact pm.mem_iff.mpr (List.mem_map.mpr ⟨_, look_mem h, rfl⟩)
    obtain ⟨r, h1, h2⟩ := List.mem_map.mp this
    exact ⟨r, h1, h2⟩
  unfold planV
  rw [List.all_eq_true.mpr fun r h => row_form tr ok fb ft.1 (hr r h), hy, show risB ys = true from by unfold risB; rw [so, decide_eq_true nd]; rfl]
  rw [show ys.contains oo = false from by
    cases hc : ys.contains oo with
    | false => rfl
    | true =>
      obtain ⟨p, hp, e⟩ := List.mem_map.mp (pm.mem_iff.mp (by simpa using hc : oo ∈ ys))
      exact absurd e (ok.no p hp)]
  rw [List.all_eq_true.mpr fun r h => ?_, List.all_eq_true.mpr fun x hx => ?_]
  · rfl
  · obtain ⟨g, hg⟩ := cl.1 x hx
    obtain ⟨r, h1, h2⟩ := at_ hg
    have ho := hr r h1
    rw [grantV_row (by rw [hy]; exact nd) h1 h2]
    have hb : x ∈ below xs cs r.h := by
      refine List.mem_filter.mpr ⟨hx, ?_⟩
      show ((look cs x.a).isSome && (wayOf cs x.a).contains r.h) = true
      rw [hg, h2]
      have := List.mem_of_getElem? (way_self (wayOf_is (ft.1 _ _ hg)).1 hg)
      simpa using this
    unfold fitV
    rw [decide_eq_true (ho.s.2 x hb), decide_eq_true (ho.u.2 x hb), ho.p]
    show ((deedsL x.p).all (memB (dsOf (below xs cs r.h)))) = true
    rw [List.all_eq_true]
    intro d hd
    obtain ⟨s, rfl, hm⟩ := dsOf_mem hb (tr.hxs x hx) hd
    exact mem_str hm
  · have ho := hr r h
    show (tieV ts r && giverV oo rs r) = true
    rw [show tieV ts r = true from ft.2 _ _ ho.g _ _ ho.s ho.u, Bool.true_and]
    unfold giverV
    rcases cl.2 _ (look_mem ho.g) with e | ⟨g2, hg⟩
    · rw [show r.g = oo from e, beq_self_eq_true]
      rfl
    · rw [show rs.any (withinV r) = true from ?_, Bool.or_true]
      obtain ⟨o, h1, h2⟩ := at_ hg
      have h2 : o.h = r.g := h2
      have oo' := hr o h1
      rw [List.any_eq_true]
      refine ⟨o, h1, ?_⟩
      have sub : ∀ x ∈ below xs cs r.h, x ∈ below xs cs o.h := fun x hx => by rw [h2]; exact below_sub ft.1 ho.g hg hx
      obtain ⟨x, hx, e1⟩ := List.mem_map.mp ho.s.1
      obtain ⟨y, hy2, e2⟩ := List.mem_map.mp ho.u.1
      have l1 := oo'.s.2 x (sub x hx)
      have l2 := oo'.u.2 y (sub y hy2)
      have l3 := passed_lt ft.1 ho.g hg
      rw [← h2] at l3
      have l4 := ho.k
      have l5 := oo'.k
      unfold withinV
      rw [decide_eq_true (by omega : o.s ≤ r.s), decide_eq_true (by omega : r.u ≤ o.u), decide_eq_true (by omega : r.k < o.k), h2, beq_self_eq_true, ho.p, oo'.p]
      show ((dsOf (below xs cs r.h)).all (memB (dsOf (below xs cs o.h))) && true) = true
      rw [Bool.and_true, List.all_eq_true]
      intro d hd
      obtain ⟨h3, h4⟩ := List.mem_filter.mp hd
      obtain ⟨x, hx, h5⟩ := List.any_eq_true.mp h4
      have h6 : d ∈ dsOf (below xs cs o.h) := List.mem_filter.mpr ⟨h3, List.any_eq_true.mpr ⟨x, sub x hx, h5⟩⟩
      rcases List.mem_cons.mp h3 with e | h3
      · rw [e] at h6 ⊢
        exact mem_str h6
      · rw [List.mem_singleton.mp h3] at h6 ⊢
        exact mem_str h6
end

end
end K75

namespace K75
open PySem PySem.Spec PyProof.Rows L2 Lk Evl Fx



local macro_rules | `(tactic| walk_at "sz") => `(tactic| first
  | exact Nat.le_of_ble_eq_true rfl
  | assumption
  | exact small_sz (Nat.le_of_ble_eq_true rfl)
  | (simp only [List.length_cons, List.length_nil, List.length_map, List.length_append]; first | omega | exact small_sz (by omega)))
local macro_rules | `(tactic| walk_at "x1") => `(tactic| first
  | with_reducible refine x_seq ?_
  | (with_reducible show wVar _ _ _); first | refine x_varF rfl ?_ | refine x_varO rfl ?_ | refine x_varV rfl ?_
  | with_reducible refine x_c ?_
  | with_reducible refine x_exf ?_
  | with_reducible refine x_excd ?_
  | (with_reducible show ∃ d1, Sl.cd (Sl.vw _) = some d1 ∧ _); refine x_excV rfl ?_
  | (with_reducible show ∃ d1, Sl.cd (Sl.own _) = some d1 ∧ _); refine x_excO rfl ?_
  | with_reducible refine x_binP ?_
  | with_reducible refine x_bin ?_
  | with_reducible refine x_adC ?_
  | with_reducible refine x_adN ?_
  | with_reducible refine x_lst ?_
  | with_reducible refine x_tup ?_
  | with_reducible refine x_lstO ?_
  | (with_reducible refine x_and (p := _ ≤ sizeLine) ?h ?_); (case h => walk_at "sz")
  | with_reducible refine x_callF ?_
  | with_reducible refine x_callL ?_
  | with_reducible refine x_listO ?_
  | (with_reducible show wCallU _ _ _ _ _); refine x_callU rfl ?_
  | with_reducible refine x_callV ?_
  | with_reducible refine x_join ?_
  | with_reducible refine x_waD ?_
  | with_reducible refine x_lc ?_
  | with_reducible refine x_lc2 ?_
  | with_reducible refine x_lenSets ?_
  | (with_reducible show wApp _ _ _ _); refine x_app rfl ?_
  | (with_reducible show wBinV _ _ _ _ _); refine x_binV rfl ?_
  | (with_reducible show wPopD _ _ _ _); refine x_popD rfl ?_
  | (with_reducible show wCatV _ _ _ _); refine x_catV rfl ?_
  | with_reducible refine x_slN2 ?_
  | with_reducible refine x_sortedSets ?_
  | with_reducible refine x_tplL ?_
  | with_reducible refine x_tplT ?_
  | with_reducible refine x_isB ?_
  | with_reducible refine x_r1 ?_
  | with_reducible refine x_r2 ?_
  | (with_reducible refine x_r1e ?h0 ?h1 ?_); (case h0 => omega); (case h1 => omega)
  | with_reducible refine x_iL ?_
  | with_reducible refine x_iT ?_
  | with_reducible refine x_iS ?_
  | with_reducible refine x_iE ?_
  | with_reducible refine x_iEe ?_
  | with_reducible refine x_yes ?_
  | with_reducible refine x_for ?_
  | (with_reducible show wLot _ [D.int _] _); (refine' x_lot (by assumption) ?h1 ?h2 ?h3 ?_); (case h1 => omega); (case h2 => first | decide | omega); (case h3 => first | decide | omega)
  | (with_reducible show ∃ o, _ = some (some (Sl.own o)) ∧ _); refine x_exO rfl ?_
  | with_reducible refine x_exo ?_
  | with_reducible refine x_ret ?_
  | with_reducible refine x_set ?_
  | with_reducible refine x_fin ?_
  | with_reducible refine x_fino ?_
  | (with_reducible refine x_and (p := _ < List.length _) ?h ?_); (case h => exact Nat.le_of_ble_eq_true rfl); (try dsimp only [List.set_cons_succ, List.set_cons_zero])
  | with_reducible refine x_next ?_
  | with_reducible refine x_retN ?_
  | with_reducible refine x_drop ?_
  | with_reducible refine x_asg ?_
  | (with_reducible refine x_gtp ?h ?_); (case h => rfl)
  | with_reducible refine x_gcons ?_
  | with_reducible refine x_gnil ?_
  | (with_reducible refine x_gn ?h ?_); (case h => exact Nat.le_of_ble_eq_true rfl); (try dsimp only [List.set_cons_succ, List.set_cons_zero])
  | with_reducible refine x_ifS ?_
  | with_reducible refine x_if ?_
  | with_reducible refine x_itT ?_
  | with_reducible refine x_itF ?_
  | with_reducible refine x_iteN ?_
  | with_reducible refine x_tru ?_
  | with_reducible refine x_tB ?_
  | with_reducible refine x_dtB ?_
  | with_reducible refine x_dtN ?_
  | with_reducible refine x_exb ?_
  | with_reducible refine x_exdb ?_
  | with_reducible refine x_tand ?_
  | with_reducible refine x_tor ?_
  | with_reducible refine x_tnot ?_
  | with_reducible refine x_and2 ?_
  | with_reducible refine x_or2 ?_
  | with_reducible refine x_not2 ?_
  | with_reducible refine x_chain ?_
  | with_reducible refine x_sub ?_
  | with_reducible refine x_addI ?_
  | (with_reducible refine x_addS ?h ?_); (case h => walk_at "sz")
  | (with_reducible refine x_addL ?h ?_); (case h => walk_at "sz")
  | (with_reducible refine x_addT ?h ?_); (case h => walk_at "sz")
  | with_reducible refine x_lt ?_
  | with_reducible refine x_le ?_
  | with_reducible refine x_gt ?_
  | with_reducible refine x_ge ?_
  | with_reducible refine x_ltS ?_
  | with_reducible refine x_eqI ?_
  | with_reducible refine x_neI ?_
  | with_reducible refine x_allSg ?_
  | with_reducible refine x_m0 ?_
  | with_reducible refine x_lstT ?_
  | with_reducible refine x_lstL ?_
  | with_reducible refine x_strB ?_
  | with_reducible refine x_strN ?_
  | with_reducible refine x_strS ?_
  | with_reducible refine x_isT ?_
  | with_reducible refine x_isI ?_
  | with_reducible refine x_neg ?_
  | with_reducible refine x_un ?_
  | (with_reducible refine x_pow ?h ?_); (case h => exact ⟨by decide, by decide +kernel⟩)
  | (with_reducible refine x_mod ?h ?_); (case h => first | decide | omega)
  | (with_reducible refine x_mul ?h ?_); (case h => exact mul_ok (by first | decide | omega) (by first | decide | omega))
  | (with_reducible refine x_div ?h ?_); (case h => exact div_ok (by first | decide | omega) (by first | decide | omega))
  | with_reducible refine x_ipA ?_
  | (with_reducible show wAugL _ _ _ _ _ _); refine x_augL rfl ?_
  | (with_reducible show wAug _ _ _ _ _); refine x_aug rfl ?_
  | (with_reducible show ∃ k' ds d, Sl.f (D.int _) = Sl.f (D.int k') ∧ _); refine x_augL1 rfl (by decide) rfl ?_
  | (with_reducible show ∃ k' j ds, Sl.f (D.int _) = Sl.f (D.int k') ∧ _ = some (some (Sl.own (O.lst ds))) ∧ ixN _ k' = some j ∧ _); refine x_setL1 rfl rfl ?_; (try dsimp only [List.set_cons_succ, List.set_cons_zero])
  | (with_reducible show ∃ ds j, _ = some (some (Sl.own (O.lst ds))) ∧ ixN _ _ = some j ∧ _); refine x_augL2 rfl rfl ?_; (try dsimp only [List.set_cons_succ, List.set_cons_zero])
  | (with_reducible show gSetL _ _ _ _ _); refine x_setL rfl ?_
  | (with_reducible show dIx (D.lst _) (D.int _) _); refine x_ixL rfl ?_
  | (with_reducible show dIx (D.tup _) (D.int _) _); refine x_ixT rfl ?_
  | with_reducible refine x_cb ?_
  | (with_reducible show wCB1 _ _ _ _); refine x_cb1 rfl rfl ?_
  | with_reducible refine x_fm ?_
  | with_reducible refine x_exl ?_
  | with_reducible refine x_ext ?_
  | with_reducible refine x_exs ?_
  | with_reducible refine x_exi ?_
  | with_reducible refine x_sl ?_
  | with_reducible refine x_slN ?_
  | with_reducible refine x_slS ?_
  | with_reducible refine x_frz ?_
  | with_reducible refine x_frL ?_
  | with_reducible refine x_revT ?_
  | with_reducible refine x_revL ?_
  | with_reducible refine x_splitO ?_
  | (with_reducible show wSlO _ _ _ _ _); refine x_slO rfl ?_
  | (with_reducible show ∃ ds2, _ = some (some (Sl.own (O.lst ds2))) ∧ _); refine x_exOl rfl ?_
  | with_reducible refine x_dictO ?_
  | with_reducible refine x_psC ?_
  | with_reducible refine x_psN ?_
  | with_reducible refine x_get ?_
  | (with_reducible show gSetSl _ _ _ _ _ _); refine x_setSl rfl ?_
  | with_reducible refine x_split ?_
  | with_reducible refine x_isN1 ?_
  | with_reducible refine x_isN0 rfl ?_
  | with_reducible refine x_iZ ?_
  | with_reducible refine x_zT ?_
  | with_reducible refine x_zL ?_
  | with_reducible refine x_stp ?_
  | with_reducible refine x_js ?_
  | with_reducible refine x_jsC ?_
  | with_reducible refine x_jsN ?_
  | with_reducible refine x_fmt ?_
  | with_reducible refine x_callFX ?_
  | (with_reducible refine x_glp ?h ?_); (case h => rfl)
  | with_reducible refine x_raiseR ?_
  | with_reducible refine x_row ?_
  | with_reducible refine x_lenL ?_
  | with_reducible refine x_lenT ?_
  | with_reducible refine x_lenD ?_
  | (with_reducible refine x_lenS ?h ?_); (case h => walk_at "sz")
  | with_reducible refine x_max ?_
  | with_reducible refine x_min ?_
  | with_reducible refine x_intI ?_
  | with_reducible refine x_intB ?_
  | (with_reducible refine x_isInt ?h ?_); (case h => first | assumption | exact part_ty (by assumption) | (intro _ hh; cases hh; done))
  | (with_reducible refine x_isBl ?h ?_); (case h => first | assumption | exact part_ty (by assumption) | (intro _ hh; cases hh; done))
  | (with_reducible refine x_isStr ?h ?_); (case h => first | assumption | exact part_ty (by assumption) | (intro _ hh; cases hh; done))
  | (with_reducible refine x_isTup ?h ?_); (case h => first | assumption | exact part_ty (by assumption) | (intro _ hh; cases hh; done))
  | (with_reducible refine x_isLst ?h ?_); (case h => first | assumption | exact part_ty (by assumption) | (intro _ hh; cases hh; done))
  | (with_reducible refine x_isDic ?h ?_); (case h => first | assumption | exact part_ty (by assumption) | (intro _ hh; cases hh; done))
  | (with_reducible refine x_itTe ?e ?_); (case e => rfl)
  | (with_reducible refine x_itFe ?e ?_); (case e => rfl)
  | with_reducible refine x_dnewO ?_
  | with_reducible refine x_dput ?_
  | with_reducible refine x_dix ?_
  | with_reducible refine x_sortedD ?_
  | with_reducible refine x_star ?_
  | with_reducible refine x_starT ?_
  | with_reducible refine x_frzD ?_
  | with_reducible refine x_sw ?_
  | with_reducible refine x_cnt ?_
  | with_reducible refine x_waC ?_
  | with_reducible refine x_waN ?_
  | with_reducible refine x_lenDD ?_
  | with_reducible refine x_allX ?_
  | (with_reducible show wFz _ _ _ _); refine x_fz rfl ?_
  | (with_reducible show wFzS _ _ _ _); refine x_fzS rfl ?_
  | (with_reducible show wFzO _ _ _ _); refine x_fzO rfl ?_
  | (with_reducible show wiK _ _ _); refine x_iK rfl ?_
  | (with_reducible show wiIt _ _ _); refine x_iIt rfl ?_
  | with_reducible refine x_iE1 ?_
  | with_reducible refine x_forR ?_
  | (with_reducible show wDIxV _ _ _ _); refine x_dixV rfl (cd_dicO _) ?_
  | (with_reducible show wDPop _ _ _ _); refine x_dpop rfl ?_
  | with_reducible refine x_pickO ?_
  | (with_reducible show wExt _ _ _ _); refine x_extO rfl ?_
  | with_reducible refine x_sortedR ?_
  | with_reducible refine x_sortedL ?_
  | with_reducible refine x_ixSt ?_
  | (with_reducible show wiVal _ _ _); refine x_iVal rfl ?_
  | with_reducible refine x_dictP ?_
  | with_reducible refine x_dictZip ?_
  | with_reducible refine x_revS ?_
  | with_reducible refine x_par ?_
  | (with_reducible show wIsiV _ _ _ _ _); refine x_isiV rfl ?_
  | ((with_reducible show _ ∧ _); refine And.intro (Nat.le_of_ble_eq_true rfl) ?_))
local macro_rules | `(tactic| walk_at "x") => `(tactic| repeat (walk_at "x1"))

section
variable {P : Program} {w : World} {K : PySem.W.Frag} {mg : Str → Option Value} {base : Heap} {tabs : List Addr}
/-! ### ways up -/
def wUp : WFn := fun ds Q => ∃ (oo : Str) (cs : Case) (a : Str), ds = [cD cs, .str a] ∧ CsOk oo cs ∧ PyData.strOk a = true ∧ (¬ HasW cs a → Q (.f .non)) ∧ ∀ l : List Str, Way cs a l → l.Nodup → Q (.f (.lst (l.map D.str)))
theorem mono__law_up : MonoF wUp := fun ds Q Q' i ⟨oo, cs, a, h1, h2, h3, q1, q2⟩ => ⟨oo, cs, a, h1, h2, h3, fun h => i _ (q1 h), fun l h g => i _ (q2 l h g)⟩
theorem ok_up (T : Txt K mg) (A : At K mg "_law_up" s__law_up ["case", "actor"]) : Cal P w K mg base 1 "_law_up" (spW K tabs (liftF wUp)) := by
  refine A.of fun f fd F => fx_fnF F sc__law_up (fun ds Q ⟨_, _, _, h, _⟩ => by rw [h]; rfl) fun cdv A outer s H E TT P0 σ0 hcd hr => ⟨_, (gss_cons (gs_setE (i := 2) sc__law_up.nd rfl (Or.inl rfl) (ge_lstOD gd_nil))
      (gss_cons (gs_setE (i := 3) sc__law_up.nd rfl (Or.inl rfl) (GE.of_pure (gp_var (pv 1))))
      (gss_cons (gs_while PassesOwn.never (gt_cmpP (opx_inD (u1 hr)) (gp_var (pv 3)) (gp_var (pv 0)) (by rfl))
      (gss_cons (gs_if (gt_cmpP (opx_in hr.u65) (gp_var (pv 3)) (gp_var (pv 2)) (by rfl))
      (gss_one (gs_ret (GE.of_pure gp_non)))
      gss_nil)
      (gss_cons (gs_append (pv 2) (gd_cons (GE.of_pure (gp_var (pv 3))) gd_nil))
      (gss_one (gs_setE (i := 3) sc__law_up.nd rfl (Or.inl rfl) (ge_dix (u1 hr) (GE.of_pure (gp_var (pv 0))) (GE.of_pure (gp_var (pv 3))) (fun _ _ => rfl)))))))
      (gss_one (gs_ret (ge_move (pv 2))))))), fun ds Q ⟨oo, cs, a, e, ok, ha, q1, q2⟩ => ?_⟩
  subst e
  have key_ok : ∀ x g, look cs x = some g → PyData.strOk x = true ∧ PyData.strOk g = true := fun x g h => ⟨name_cp (ok.a _ (look_mem h)), name_cp (ok.b _ (look_mem h))⟩
  refine x_start (e := [some (.f (cD cs)), some (.f (.str a)), none, none]) rfl ?_
  walk_at "x"
  refine ⟨fun m e => ∃ (found : List Str) (here : Str), m + found.length = cs.length ∧ found.Nodup ∧ (∀ x ∈ found, ∃ g, look cs x = some g) ∧ PyData.strOk here = true ∧ (∀ l, Way cs a l ↔ ∃ l', l = found ++ l' ∧ Way cs here l') ∧
    e = [some (.f (cD cs)), some (.f (.str a)), some (.own (.lst (found.map D.str))), some (.f (.str here))], ⟨cs.length, [], a, rfl, .nil, nofun, ha, fun l => ⟨fun h => ⟨l, rfl, h⟩, fun ⟨l', e, h⟩ => by rw [e]; exact h⟩, rfl⟩, ?_⟩
  rintro m e ⟨found, here, hm, nd, hk, hh, hw, rfl⟩
  walk_at "x"
  refine x_inD (k := .inr here) (l := cP cs) ?_
  rw [getP_case]
  cases hl : look cs here with
  | none =>
    walk_at "x"
    exact ⟨_, _, rfl, rfl, nofun, Nat.le_of_ble_eq_true rfl, q2 found ((hw found).mpr ⟨[], by rw [List.append_nil], hl⟩) nd⟩
  | some g =>
    walk_at "x"
    have fo : okPy (.lst (found.map D.str)) = true := okPy_strs fun x hx => by
      obtain ⟨g, hg⟩ := hk x hx
      exact (key_ok _ _ hg).1
    refine x_inL (okPy_str hh) fo ?_
    rw [mem_strs]
    cases hc : found.contains here with
    | true =>
      walk_at "x"
      refine q1 fun ⟨l, h1, h2⟩ => ?_
      obtain ⟨l', rfl, h3⟩ := (hw l).mp h1
      cases l' with
      | nil => rw [show look cs here = none from h3] at hl; cases hl
      | cons y l' =>
        have hin : here ∈ found := by simpa using hc
        exact (List.nodup_append.mp h2).2.2 here hin y (List.mem_cons_self ..) h3.1
    | false =>
      walk_at "x"
      have hin : here ∉ found := by simpa using hc
      have nd2 : (found ++ [here]).Nodup := by
        rw [List.nodup_append]
        exact ⟨nd, List.nodup_cons.mpr ⟨nofun, .nil⟩, fun x hx y hy e => hin (by rw [List.mem_singleton.mp hy] at e; rw [← e]; exact hx)⟩
      have hk2 : ∀ x ∈ found ++ [here], ∃ g, look cs x = some g := fun x hx => by
        rcases List.mem_append.mp hx with hx | hx
        · exact hk x hx
        · rw [List.mem_singleton.mp hx]
          exact ⟨g, hl⟩
      have len := nodup_le (l := found ++ [here]) (m := cs.map (·.1)) nd2 fun x hx => by
        obtain ⟨g, hg⟩ := hk2 x hx
        exact List.mem_map.mpr ⟨(x, g), look_mem hg, rfl⟩
      rw [List.length_map, List.length_append, List.length_singleton] at len
      have cl := ok.len
      refine x_appE rfl (by rw [List.length_map]; omega) ?_
      walk_at "x"
      refine x_dixL ?_
      walk_at "x"
      refine ⟨.inr here, .str g, rfl, by rw [getP_case, hl]; rfl, ?_⟩
      walk_at "x"
      refine ⟨m - 1, by omega, found ++ [here], g, by rw [List.length_append, List.length_singleton]; omega, nd2, hk2, (key_ok _ _ hl).2, fun l => ?_, by rw [List.map_append]; rfl⟩
      rw [hw l]
      constructor
      · rintro ⟨l', rfl, h3⟩
        cases l' with
        | nil => rw [show look cs here = none from h3] at hl; cases hl
        | cons y l' =>
          obtain ⟨e, g', h4, h5⟩ := h3
          rw [hl] at h4
          cases h4
          exact ⟨l', by rw [e, List.append_assoc]; rfl, h5⟩
      · rintro ⟨l', rfl, h3⟩
        exact ⟨here :: l', by rw [List.append_assoc]; rfl, rfl, g, hl, h3⟩
/-! ### wishes below -/
def wBelow : WFn := fun ds Q => ∃ (oo : Str) (ts : List Ti) (xs : List Wi) (cs : Case) (a : Str), ds = [trustD oo ts xs, cD cs, .str a] ∧ TrOk oo ts xs ∧ CsOk oo cs ∧ Acy cs ∧ PyData.strOk a = true ∧ Q (.f (.lst ((below xs cs a).map Wi.d)))
theorem mono__law_below : MonoF wBelow := fun ds Q Q' i ⟨oo, ts, xs, cs, a, h1, h2, h3, h4, h5, q⟩ => ⟨oo, ts, xs, cs, a, h1, h2, h3, h4, h5, i _ q⟩
theorem way_strs {oo : Str} {cs : Case} (ok : CsOk oo cs) {x : Str} (h : HasW cs x) : ∀ y ∈ wayOf cs x, PyData.strOk y = true := fun y hy => by
  obtain ⟨g, hg⟩ := way_keys (wayOf_is h).1 y hy
  exact name_cp (ok.a _ (look_mem hg))
theorem ok_below (T : Txt K mg) (c__law_up : Cal P w K mg base 1 "_law_up" (spW K tabs (liftF wUp))) (A : At K mg "_law_below" s__law_below ["trust", "case", "actor"]) : Cal P w K mg base 2 "_law_below" (spW K tabs (liftF wBelow)) := by
  refine A.of fun f fd F => fx_fnF F sc__law_below (fun ds Q ⟨_, _, _, _, _, h, _⟩ => by rw [h]; rfl) fun cdv A outer s H E TT P0 σ0 hcd hr => ⟨_, (gss_one (gs_ret (ge_frz (ge_lcR1 (own := [("wish", 3)]) (t := .name 3) rfl sc__law_below.nd (gi_tup (GE.of_pure (gp_ix ixx (gp_var (pv 0)) gp_int (fun _ _ => rfl)))) (blkOk_by (own := [("wish", 3)]) (N := ["trust", "case", "actor", "wish"]) (sc := defScope s__law_below) (by decide +kernel)) (fun _ _ _ _ _ => (pg_name (i := 3) sc__law_below.nd rfl (Or.inl rfl))) (fun _ _ _ _ _ => (GW.gt (gw_and (gt_cmpP (opx_inD (u1 hr)) (gp_ix ixx (gp_var (pv 3)) gp_int (fun _ _ => rfl)) (gp_var (pv 1)) (by rfl)) (gw_and1 (gt_cmp (opx_in hr.u65) (GE.of_pure (gp_var (pv 2))) (ge_callF c__law_up hr (by decide) rfl rfl rfl mono__law_up (gd_cons (GE.of_pure (gp_var (pv 1))) (gd_cons (GE.of_pure (gp_ix ixx (gp_var (pv 3)) gp_int (fun _ _ => rfl))) gd_nil))) (by rfl)))))) (fun _ _ _ _ _ => (GE.of_pure (gp_var (pv 3)))) (by decide) (mem1 rfl) (mem1 (Nat.le_of_ble_eq_true rfl)))))), fun ds Q ⟨oo, ts, xs, cs, a, e, tr, ok, ac, ha, q⟩ => ?_⟩
  subst e
  have hx6 := tr.x6
  refine x_start (e := [some (.f (.tup [.str oo, .tup (ts.map Ti.d), .tup (xs.map Wi.d)])), some (.f (cD cs)), some (.f (.str a)), none]) rfl ?_
  walk_at "x"
  refine ⟨by rw [List.length_map]; omega, fun i acc e => acc = ((xs.take i).filter (bel cs a)).map Wi.d ∧ ∃ x3, e = [some (.f (.tup [.str oo, .tup (ts.map Ti.d), .tup (xs.map Wi.d)])), some (.f (cD cs)), some (.f (.str a)), x3], ⟨rfl, _, rfl⟩, ?_, ?_⟩
  · rintro i d acc e hd ⟨rfl, x3, rfl⟩
    rw [List.getElem?_map] at hd
    obtain ⟨x, hx, rfl⟩ := Option.map_eq_some_iff.mp hd
    have xok := tr.hxs x (List.mem_of_getElem? hx)
    have yes : bel cs a x = true → ((xs.take i).filter (bel cs a)).map Wi.d ++ [x.d] = ((xs.take (i + 1)).filter (bel cs a)).map Wi.d := fun h => by
      rw [take_snoc hx, List.filter_append, List.filter_cons_of_pos h, List.filter_nil, List.map_append]
      rfl
    have no : bel cs a x = false → ((xs.take i).filter (bel cs a)).map Wi.d = ((xs.take (i + 1)).filter (bel cs a)).map Wi.d := fun h => by
      rw [take_snoc hx, List.filter_append, List.filter_cons_of_neg (by rw [h]; decide), List.filter_nil, List.append_nil]
    have bq : bel cs a x = ((look cs x.a).isSome && (wayOf cs x.a).contains a) := rfl
    rw [show x.d = .tup [.str x.a, x.p, .int x.s, .int x.u] from rfl] at yes
    rw [show x.d = .tup [.str x.a, x.p, .int x.s, .int x.u] from rfl]
    refine ⟨_, rfl, ?_⟩
    dsimp only [List.map_cons, List.map_nil, wipeE, setE, Tgt.js, List.set_cons_zero, List.set_cons_succ]
    walk_at "x"
    refine x_inD (k := .inr x.a) (l := cP cs) ?_
    rw [getP_case]
    cases hl : look cs x.a with
    | none =>
      rw [hl] at bq
      walk_at "x"
      exact ⟨no bq, _, rfl⟩
    | some g =>
      have hW := ac _ _ hl
      rw [hl, show (some g).isSome = true from rfl, Bool.true_and] at bq
      walk_at "x"
      refine ⟨oo, cs, x.a, rfl, ok, name_cp xok.a, fun h => absurd hW h, fun l h1 h2 => ?_⟩
      rw [← wayOf_eq h1 h2]
      walk_at "x"
      refine x_inL (okPy_str ha) (okPy_strs (way_strs ok hW)) ?_
      rw [mem_strs]
      cases hc : (wayOf cs x.a).contains a with
      | true =>
        rw [hc] at bq
        walk_at "x"
        exact ⟨yes bq, _, rfl⟩
      | false =>
        rw [hc] at bq
        walk_at "x"
        exact ⟨no bq, _, rfl⟩
  rintro acc e ⟨rfl, x3, rfl⟩
  rw [List.length_map, List.take_length]
  try dsimp only [List.map_cons, List.map_nil, wipeE, List.set_cons_zero, List.set_cons_succ]
  walk_at "x"
  exact q

end
end K75

namespace K75
open PySem PySem.Spec PyProof.Rows L2 Lk Evl Fx



local macro_rules | `(tactic| walk_at "sz") => `(tactic| first
  | exact Nat.le_of_ble_eq_true rfl
  | assumption
  | exact small_sz (Nat.le_of_ble_eq_true rfl)
  | (simp only [List.length_cons, List.length_nil, List.length_map, List.length_append]; first | omega | exact small_sz (by omega)))
local macro_rules | `(tactic| walk_at "x1") => `(tactic| first
  | with_reducible refine x_seq ?_
  | (with_reducible show wVar _ _ _); first | refine x_varF rfl ?_ | refine x_varO rfl ?_ | refine x_varV rfl ?_
  | with_reducible refine x_c ?_
  | with_reducible refine x_exf ?_
  | with_reducible refine x_excd ?_
  | (with_reducible show ∃ d1, Sl.cd (Sl.vw _) = some d1 ∧ _); refine x_excV rfl ?_
  | (with_reducible show ∃ d1, Sl.cd (Sl.own _) = some d1 ∧ _); refine x_excO rfl ?_
  | with_reducible refine x_binP ?_
  | with_reducible refine x_bin ?_
  | with_reducible refine x_adC ?_
  | with_reducible refine x_adN ?_
  | with_reducible refine x_lst ?_
  | with_reducible refine x_tup ?_
  | with_reducible refine x_lstO ?_
  | (with_reducible refine x_and (p := _ ≤ sizeLine) ?h ?_); (case h => walk_at "sz")
  | with_reducible refine x_callF ?_
  | with_reducible refine x_callL ?_
  | with_reducible refine x_listO ?_
  | (with_reducible show wCallU _ _ _ _ _); refine x_callU rfl ?_
  | with_reducible refine x_callV ?_
  | with_reducible refine x_join ?_
  | with_reducible refine x_waD ?_
  | with_reducible refine x_lc ?_
  | with_reducible refine x_lc2 ?_
  | with_reducible refine x_lenSets ?_
  | (with_reducible show wApp _ _ _ _); refine x_app rfl ?_
  | (with_reducible show wBinV _ _ _ _ _); refine x_binV rfl ?_
  | (with_reducible show wPopD _ _ _ _); refine x_popD rfl ?_
  | (with_reducible show wCatV _ _ _ _); refine x_catV rfl ?_
  | with_reducible refine x_slN2 ?_
  | with_reducible refine x_sortedSets ?_
  | with_reducible refine x_tplL ?_
  | with_reducible refine x_tplT ?_
  | with_reducible refine x_isB ?_
  | with_reducible refine x_r1 ?_
  | with_reducible refine x_r2 ?_
  | (with_reducible refine x_r1e ?h0 ?h1 ?_); (case h0 => omega); (case h1 => omega)
  | with_reducible refine x_iL ?_
  | with_reducible refine x_iT ?_
  | with_reducible refine x_iS ?_
  | with_reducible refine x_iE ?_
  | with_reducible refine x_iEe ?_
  | with_reducible refine x_yes ?_
  | with_reducible refine x_for ?_
  | (with_reducible show wLot _ [D.int _] _); (refine' x_lot (by assumption) ?h1 ?h2 ?h3 ?_); (case h1 => omega); (case h2 => first | decide | omega); (case h3 => first | decide | omega)
  | (with_reducible show ∃ o, _ = some (some (Sl.own o)) ∧ _); refine x_exO rfl ?_
  | with_reducible refine x_exo ?_
  | with_reducible refine x_ret ?_
  | with_reducible refine x_set ?_
  | with_reducible refine x_fin ?_
  | with_reducible refine x_fino ?_
  | (with_reducible refine x_and (p := _ < List.length _) ?h ?_); (case h => exact Nat.le_of_ble_eq_true rfl); (try dsimp only [List.set_cons_succ, List.set_cons_zero])
  | with_reducible refine x_next ?_
  | with_reducible refine x_retN ?_
  | with_reducible refine x_drop ?_
  | with_reducible refine x_asg ?_
  | (with_reducible refine x_gtp ?h ?_); (case h => rfl)
  | with_reducible refine x_gcons ?_
  | with_reducible refine x_gnil ?_
  | (with_reducible refine x_gn ?h ?_); (case h => exact Nat.le_of_ble_eq_true rfl); (try dsimp only [List.set_cons_succ, List.set_cons_zero])
  | with_reducible refine x_ifS ?_
  | with_reducible refine x_if ?_
  | with_reducible refine x_itT ?_
  | with_reducible refine x_itF ?_
  | with_reducible refine x_iteN ?_
  | with_reducible refine x_tru ?_
  | with_reducible refine x_tB ?_
  | with_reducible refine x_dtB ?_
  | with_reducible refine x_dtN ?_
  | with_reducible refine x_exb ?_
  | with_reducible refine x_exdb ?_
  | with_reducible refine x_tand ?_
  | with_reducible refine x_tor ?_
  | with_reducible refine x_tnot ?_
  | with_reducible refine x_and2 ?_
  | with_reducible refine x_or2 ?_
  | with_reducible refine x_not2 ?_
  | with_reducible refine x_chain ?_
  | with_reducible refine x_sub ?_
  | with_reducible refine x_addI ?_
  | (with_reducible refine x_addS ?h ?_); (case h => walk_at "sz")
  | (with_reducible refine x_addL ?h ?_); (case h => walk_at "sz")
  | (with_reducible refine x_addT ?h ?_); (case h => walk_at "sz")
  | with_reducible refine x_lt ?_
  | with_reducible refine x_le ?_
  | with_reducible refine x_gt ?_
  | with_reducible refine x_ge ?_
  | with_reducible refine x_ltS ?_
  | with_reducible refine x_eqI ?_
  | with_reducible refine x_neI ?_
  | with_reducible refine x_allSg ?_
  | with_reducible refine x_m0 ?_
  | with_reducible refine x_lstT ?_
  | with_reducible refine x_lstL ?_
  | with_reducible refine x_strB ?_
  | with_reducible refine x_strN ?_
  | with_reducible refine x_strS ?_
  | with_reducible refine x_isT ?_
  | with_reducible refine x_isI ?_
  | with_reducible refine x_neg ?_
  | with_reducible refine x_un ?_
  | (with_reducible refine x_pow ?h ?_); (case h => exact ⟨by decide, by decide +kernel⟩)
  | (with_reducible refine x_mod ?h ?_); (case h => first | decide | omega)
  | (with_reducible refine x_mul ?h ?_); (case h => exact mul_ok (by first | decide | omega) (by first | decide | omega))
  | (with_reducible refine x_div ?h ?_); (case h => exact div_ok (by first | decide | omega) (by first | decide | omega))
  | with_reducible refine x_ipA ?_
  | (with_reducible show wAugL _ _ _ _ _ _); refine x_augL rfl ?_
  | (with_reducible show wAug _ _ _ _ _); refine x_aug rfl ?_
  | (with_reducible show ∃ k' ds d, Sl.f (D.int _) = Sl.f (D.int k') ∧ _); refine x_augL1 rfl (by decide) rfl ?_
  | (with_reducible show ∃ k' j ds, Sl.f (D.int _) = Sl.f (D.int k') ∧ _ = some (some (Sl.own (O.lst ds))) ∧ ixN _ k' = some j ∧ _); refine x_setL1 rfl rfl ?_; (try dsimp only [List.set_cons_succ, List.set_cons_zero])
  | (with_reducible show ∃ ds j, _ = some (some (Sl.own (O.lst ds))) ∧ ixN _ _ = some j ∧ _); refine x_augL2 rfl rfl ?_; (try dsimp only [List.set_cons_succ, List.set_cons_zero])
  | (with_reducible show gSetL _ _ _ _ _); refine x_setL rfl ?_
  | (with_reducible show dIx (D.lst _) (D.int _) _); refine x_ixL rfl ?_
  | (with_reducible show dIx (D.tup _) (D.int _) _); refine x_ixT rfl ?_
  | with_reducible refine x_cb ?_
  | (with_reducible show wCB1 _ _ _ _); refine x_cb1 rfl rfl ?_
  | with_reducible refine x_fm ?_
  | with_reducible refine x_exl ?_
  | with_reducible refine x_ext ?_
  | with_reducible refine x_exs ?_
  | with_reducible refine x_exi ?_
  | with_reducible refine x_sl ?_
  | with_reducible refine x_slN ?_
  | with_reducible refine x_slS ?_
  | with_reducible refine x_frz ?_
  | with_reducible refine x_frL ?_
  | with_reducible refine x_revT ?_
  | with_reducible refine x_revL ?_
  | with_reducible refine x_splitO ?_
  | (with_reducible show wSlO _ _ _ _ _); refine x_slO rfl ?_
  | (with_reducible show ∃ ds2, _ = some (some (Sl.own (O.lst ds2))) ∧ _); refine x_exOl rfl ?_
  | with_reducible refine x_dictO ?_
  | with_reducible refine x_psC ?_
  | with_reducible refine x_psN ?_
  | with_reducible refine x_get ?_
  | (with_reducible show gSetSl _ _ _ _ _ _); refine x_setSl rfl ?_
  | with_reducible refine x_split ?_
  | with_reducible refine x_isN1 ?_
  | with_reducible refine x_isN0 rfl ?_
  | with_reducible refine x_iZ ?_
  | with_reducible refine x_zT ?_
  | with_reducible refine x_zL ?_
  | with_reducible refine x_stp ?_
  | with_reducible refine x_js ?_
  | with_reducible refine x_jsC ?_
  | with_reducible refine x_jsN ?_
  | with_reducible refine x_fmt ?_
  | with_reducible refine x_callFX ?_
  | (with_reducible refine x_glp ?h ?_); (case h => rfl)
  | with_reducible refine x_raiseR ?_
  | with_reducible refine x_row ?_
  | with_reducible refine x_lenL ?_
  | with_reducible refine x_lenT ?_
  | with_reducible refine x_lenD ?_
  | (with_reducible refine x_lenS ?h ?_); (case h => walk_at "sz")
  | with_reducible refine x_max ?_
  | with_reducible refine x_min ?_
  | with_reducible refine x_intI ?_
  | with_reducible refine x_intB ?_
  | (with_reducible refine x_isInt ?h ?_); (case h => first | assumption | exact part_ty (by assumption) | (intro _ hh; cases hh; done))
  | (with_reducible refine x_isBl ?h ?_); (case h => first | assumption | exact part_ty (by assumption) | (intro _ hh; cases hh; done))
  | (with_reducible refine x_isStr ?h ?_); (case h => first | assumption | exact part_ty (by assumption) | (intro _ hh; cases hh; done))
  | (with_reducible refine x_isTup ?h ?_); (case h => first | assumption | exact part_ty (by assumption) | (intro _ hh; cases hh; done))
  | (with_reducible refine x_isLst ?h ?_); (case h => first | assumption | exact part_ty (by assumption) | (intro _ hh; cases hh; done))
  | (with_reducible refine x_isDic ?h ?_); (case h => first | assumption | exact part_ty (by assumption) | (intro _ hh; cases hh; done))
  | (with_reducible refine x_itTe ?e ?_); (case e => rfl)
  | (with_reducible refine x_itFe ?e ?_); (case e => rfl)
  | with_reducible refine x_dnewO ?_
  | with_reducible refine x_dput ?_
  | with_reducible refine x_dix ?_
  | with_reducible refine x_sortedD ?_
  | with_reducible refine x_star ?_
  | with_reducible refine x_starT ?_
  | with_reducible refine x_frzD ?_
  | with_reducible refine x_sw ?_
  | with_reducible refine x_cnt ?_
  | with_reducible refine x_waC ?_
  | with_reducible refine x_waN ?_
  | with_reducible refine x_lenDD ?_
  | with_reducible refine x_allX ?_
  | (with_reducible show wFz _ _ _ _); refine x_fz rfl ?_
  | (with_reducible show wFzS _ _ _ _); refine x_fzS rfl ?_
  | (with_reducible show wFzO _ _ _ _); refine x_fzO rfl ?_
  | (with_reducible show wiK _ _ _); refine x_iK rfl ?_
  | (with_reducible show wiIt _ _ _); refine x_iIt rfl ?_
  | with_reducible refine x_iE1 ?_
  | with_reducible refine x_forR ?_
  | (with_reducible show wDIxV _ _ _ _); refine x_dixV rfl (cd_dicO _) ?_
  | (with_reducible show wDPop _ _ _ _); refine x_dpop rfl ?_
  | with_reducible refine x_pickO ?_
  | (with_reducible show wExt _ _ _ _); refine x_extO rfl ?_
  | with_reducible refine x_sortedR ?_
  | with_reducible refine x_sortedL ?_
  | with_reducible refine x_ixSt ?_
  | (with_reducible show wiVal _ _ _); refine x_iVal rfl ?_
  | with_reducible refine x_dictP ?_
  | with_reducible refine x_dictZip ?_
  | with_reducible refine x_revS ?_
  | with_reducible refine x_par ?_
  | (with_reducible show wIsiV _ _ _ _ _); refine x_isiV rfl ?_
  | ((with_reducible show _ ∧ _); refine And.intro (Nat.le_of_ble_eq_true rfl) ?_))
local macro_rules | `(tactic| walk_at "x") => `(tactic| repeat (walk_at "x1"))

section
variable {P : Program} {w : World} {K : PySem.W.Frag} {mg : Str → Option Value} {base : Heap} {tabs : List Addr}
/-! ### fits -/
noncomputable def hasB (cs : Case) (x : Str) : Bool := @decide (HasW cs x) (Classical.propDecidable _)
theorem keyL_case (cs : Case) : ((cP cs).map fun x => x.fst).map keyD = cs.map fun p => D.str p.1 := by
  unfold cP
  rw [List.map_map, List.map_map]
  rfl
def FitAt (ts : List Ti) (xs : List Wi) (cs : Case) (p : Str × Str) : Prop := below xs cs p.1 ≠ [] ∧ ∀ s u, IsMin s (below xs cs p.1) → IsMax u (below xs cs p.1) → tieV ts ⟨p.2, p.1, .non, s, u, 0⟩ = true
theorem fit_wish {x : Wi} (h : x.Ok) : Fit 2 x.d := by
  refine fit_tup fun y hy => ?_
  simp only [List.mem_cons, List.not_mem_nil, or_false] at hy
  rcases hy with rfl | rfl | rfl | rfl
  · exact fit_str (name_cp h.a)
  · have d4 := deeds_four h.p
    have d := deeds4_tup d4
    rw [d.1]
    exact fit_tup fun x hx => fit_deed d4 d.1 x hx
  · exact fit_int
  · exact fit_int
theorem okPy_wishes {b : List Wi} (h : ∀ x ∈ b, x.Ok) : okPy (.lst (b.map Wi.d)) = true := by
  refine (fit_lst (n := 2) fun x hx => ?_).ok (by decide)
  obtain ⟨r, hr, rfl⟩ := List.mem_map.mp hx
  exact fit_wish (h r hr)
def wFits : WFn := fun ds Q => ∃ (oo : Str) (ts : List Ti) (xs : List Wi) (cs : Case), ds = [trustD oo ts xs, cD cs] ∧ TrOk oo ts xs ∧ CsOk oo cs ∧ ∀ b : Bool, (b = true → Fits ts xs cs ∧ FitsB xs cs) → Q (.f (.bl b))
theorem mono__law_fits : MonoF wFits := fun ds Q Q' i ⟨oo, ts, xs, cs, h1, h2, h3, q⟩ => ⟨oo, ts, xs, cs, h1, h2, h3, fun b h => i _ (q b h)⟩
theorem ok_fits (T : Txt K mg) (c__law_up : Cal P w K mg base 1 "_law_up" (spW K tabs (liftF wUp))) (c__law_below : Cal P w K mg base 2 "_law_below" (spW K tabs (liftF wBelow))) (c__law_lies : Cal P w K mg base 1 "_law_lies" (spW K tabs (liftF wLLies)))
    (A : At K mg "_law_fits" s__law_fits ["trust", "case"]) : Cal P w K mg base 3 "_law_fits" (spW K tabs (liftF wFits)) := by
  refine A.of fun f fd F => fx_fnF F sc__law_fits (fun ds Q ⟨_, _, _, _, h, _⟩ => by rw [h]; rfl) fun cdv A outer s H E TT P0 σ0 hcd hr => ⟨_, (gss_cons (gs_if (gt_cmp (opx_ne hr.units) (ge_frz (ge_fz (i := 1) (fun Tz Hz Pz σz hz => (ge_lcR1 (own := [("actor", 2)]) (t := .name 2) rfl sc__law_fits.nd (gi_keys hz (pv 1)) (blkOk_by (own := [("actor", 2)]) (N := ["trust", "case", "actor", "some", "first", "wish"]) (sc := defScope s__law_fits) (by decide +kernel)) (fun _ _ _ _ _ => (pg_name (i := 2) sc__law_fits.nd rfl (Or.inl rfl))) (fun _ _ _ _ _ => (gt_cmp opx_isN (ge_callF c__law_up hr (by decide) rfl rfl rfl mono__law_up (gd_cons (GE.of_pure (gp_var (pv 1))) (gd_cons (GE.of_pure (gp_var (pv 2))) gd_nil))) (GE.of_pure gp_non) (nomark _))) (fun _ _ _ _ _ => (GE.of_pure (gp_var (pv 2)))) (by decide) (mem1 rfl) (mem1 (Nat.le_of_ble_eq_true rfl)))))) (ge_lstD gd_nil) (nomark _))
      (gss_one (gs_ret (GE.of_pure gp_bl)))
      gss_nil)
      (gss_cons (gs_forK (i := 1) (pv 1) (fun Tz Hz Pz σz => (gg_name (pg_name (i := 2) sc__law_fits.nd rfl (Or.inl rfl)) rfl)) (fun Tz Hz Pz σz =>
      (gss_cons (gs_setE (i := 3) sc__law_fits.nd rfl (Or.inl rfl) (ge_callF c__law_below hr (by decide) rfl rfl rfl mono__law_below (gd_cons (GE.of_pure (gp_var (pv 0))) (gd_cons (GE.of_pure (gp_var (pv 1))) (gd_cons (GE.of_pure (gp_var (pv 2))) gd_nil)))))
      (gss_cons (gs_if (gt_cmp (opx_eq hr.units) (GE.of_pure (gp_var (pv 3))) (ge_lstD gd_nil) (nomark _))
      (gss_one (gs_ret (GE.of_pure gp_bl)))
      gss_nil)
      (gss_cons (gs_setE (i := 4) sc__law_fits.nd rfl (Or.inl rfl) (ge_cbB (cax_minL rfl) (by rfl) T.z_min (by decide +kernel) (gd_cons (ge_frz (ge_lcR (own := [("wish", 5)]) (t := .name 5) rfl sc__law_fits.nd (gi_list (GE.of_pure (gp_var (pv 3)))) (blkOk_by (own := [("wish", 5)]) (N := ["trust", "case", "actor", "some", "first", "wish"]) (sc := defScope s__law_fits) (by decide +kernel)) (fun _ _ _ _ _ => (pg_name (i := 5) sc__law_fits.nd rfl (Or.inl rfl))) (fun _ _ _ _ _ => (GE.of_pure (gp_ix ixx (gp_var (pv 5)) gp_int (fun _ _ => rfl)))) (by decide) (mem1 rfl) (mem1 (Nat.le_of_ble_eq_true rfl)))) gd_nil)))
      (gss_one (gs_if (gt_not (gt_tru (ge_callF c__law_lies hr (by decide) rfl rfl rfl mono__law_lies (gd_cons (GE.of_pure (gp_var (pv 0))) (gd_cons (ge_dix (u1 hr) (GE.of_pure (gp_var (pv 1))) (GE.of_pure (gp_var (pv 2))) (fun _ _ => rfl)) (gd_cons (GE.of_pure (gp_var (pv 2))) (gd_cons (GE.of_pure (gp_var (pv 4))) (gd_cons (ge_cbB (cax_maxL rfl) (by rfl) T.z_max (by decide +kernel) (gd_cons (ge_frz (ge_lcR (own := [("wish", 5)]) (t := .name 5) rfl sc__law_fits.nd (gi_list (GE.of_pure (gp_var (pv 3)))) (blkOk_by (own := [("wish", 5)]) (N := ["trust", "case", "actor", "some", "first", "wish"]) (sc := defScope s__law_fits) (by decide +kernel)) (fun _ _ _ _ _ => (pg_name (i := 5) sc__law_fits.nd rfl (Or.inl rfl))) (fun _ _ _ _ _ => (GE.of_pure (gp_ix ixx (gp_var (pv 5)) gp_int (fun _ _ => rfl)))) (by decide) (mem1 rfl) (mem1 (Nat.le_of_ble_eq_true rfl)))) gd_nil)) gd_nil))))))))
      (gss_one (gs_ret (GE.of_pure gp_bl)))
      gss_nil)))))) PassesOwn.never rfl)
      (gss_one (gs_ret (GE.of_pure gp_bl))))), fun ds Q ⟨oo, ts, xs, cs, e, tr, ok, q⟩ => ?_⟩
  subst e
  have hx6 := tr.x6
  have hcl := ok.len
  refine x_start (e := [some (.f (.tup [.str oo, .tup (ts.map Ti.d), .tup (xs.map Wi.d)])), some (.f (cD cs)), none, none, none, none]) rfl ?_
  walk_at "x"
  rw [keyL_case]
  refine ⟨by rw [List.length_map]; omega, fun i acc e => acc = ((cs.take i).filter (fun p => !hasB cs p.1)).map (fun p => D.str p.1) ∧ ∃ x2, e = [some (.f (.tup [.str oo, .tup (ts.map Ti.d), .tup (xs.map Wi.d)])), some (.f (cD cs)), x2, none, none, none], ⟨rfl, _, rfl⟩, ?_, ?_⟩
  · rintro i d acc e hd ⟨rfl, x2, rfl⟩
    rw [List.getElem?_map] at hd
    obtain ⟨p, hp, rfl⟩ := Option.map_eq_some_iff.mp hd
    have pm := List.mem_of_getElem? hp
    refine ⟨_, rfl, ?_⟩
    dsimp only [List.map_cons, List.map_nil, wipeE, setE, Tgt.js, List.set_cons_zero, List.set_cons_succ]
    walk_at "x"
    refine ⟨oo, cs, p.1, rfl, ok, name_cp (ok.a p pm), fun hn => ?_, fun l h1 h2 => ?_⟩
    · have hb : hasB cs p.1 = false := by unfold hasB; exact @decide_eq_false _ (_) hn
      walk_at "x"
      exact ⟨by rw [take_snoc hp, List.filter_append, List.filter_cons_of_pos (by rw [hb]; rfl), List.filter_nil, List.map_append]; rfl, _, rfl⟩
    · have hb : hasB cs p.1 = true := by unfold hasB; exact @decide_eq_true _ (_) ⟨l, h1, h2⟩
      walk_at "x"
      exact ⟨by rw [take_snoc hp, List.filter_append, List.filter_cons_of_neg (by rw [hb]; decide), List.filter_nil, List.append_nil], _, rfl⟩
  rintro acc e ⟨rfl, x2, rfl⟩
  rw [List.length_map, List.take_length]
  try dsimp only [List.map_cons, List.map_nil, wipeE, List.set_cons_zero, List.set_cons_succ]
  walk_at "x"
  have no := q false nofun
  refine x_neD ?_ (by decide +kernel) ?_
  · have := okPy_strs (xs := (cs.filter (fun p => !hasB cs p.1)).map (·.1)) fun x hx => by
      obtain ⟨p, hp, rfl⟩ := List.mem_map.mp hx
      exact name_cp (ok.a p (List.mem_filter.mp hp).1)
    rwa [List.map_map] at this
  rw [ne_nilD, miss_emp]
  cases hall : cs.all (fun p => hasB cs p.1) with
  | false =>
    walk_at "x"
    exact no
  | true =>
  have ac : Acy cs := fun x g h => by
    have := List.all_eq_true.mp hall (x, g) (look_mem h)
    exact @of_decide_eq_true _ (_) this
  walk_at "x"
  rw [keyL_case]
  refine ⟨fun i e => (∀ j p, j < i → cs[j]? = some p → FitAt ts xs cs p) ∧ ∃ x2 x3 x4 x5, e = [some (.f (.tup [.str oo, .tup (ts.map Ti.d), .tup (xs.map Wi.d)])), some (.f (cD cs)), x2, x3, x4, x5], ⟨fun j y h => absurd h (Nat.not_lt_zero _), _, _, _, _, rfl⟩, ?_, ?_⟩
  · rintro i d e hd ⟨hj, x2, x3, x4, x5, rfl⟩
    rw [List.getElem?_map] at hd
    obtain ⟨p, hp, rfl⟩ := Option.map_eq_some_iff.mp hd
    have pm := List.mem_of_getElem? hp
    have a1 := name_cp (ok.a p pm)
    have b1 := name_cp (ok.b p pm)
    have lk := look_of (x := p.1) (g := p.2) ok.nd pm
    walk_at "x"
    refine ⟨oo, ts, xs, cs, p.1, rfl, tr, ok, ac, a1, ?_⟩
    have bo : ∀ x ∈ below xs cs p.1, x.Ok := fun x hx => tr.hxs x (List.mem_filter.mp hx).1
    have bl : (below xs cs p.1).length ≤ 6 := Nat.le_trans (List.length_filter_le ..) hx6
    have fa : FitAt ts xs cs p = (below xs cs p.1 ≠ [] ∧ ∀ s u, IsMin s (below xs cs p.1) → IsMax u (below xs cs p.1) → tieV ts ⟨p.2, p.1, .non, s, u, 0⟩ = true) := rfl
    generalize below xs cs p.1 = b at bo bl fa
    walk_at "x"
    refine x_eqD (okPy_wishes bo) (by decide +kernel) ?_
    rw [ne_nilD]
    cases hb : (b.map Wi.d).isEmpty with
    | true =>
      walk_at "x"
      exact no
    | false =>
    have bne : b ≠ [] := fun e => by rw [e] at hb; cases hb
    walk_at "x"
    refine ⟨by rw [List.length_map]; omega, fun i acc e => acc = ((b.take i).map (·.s)).map D.int ∧ ∃ x4 x5, e = [some (.f (.tup [.str oo, .tup (ts.map Ti.d), .tup (xs.map Wi.d)])), some (.f (cD cs)), some (.f (.str p.1)), some (.f (.lst (b.map Wi.d))), x4, x5], ⟨rfl, _, _, rfl⟩, ?_, ?_⟩
    · rintro i d acc e hd ⟨rfl, x4, x5, rfl⟩
      rw [List.getElem?_map] at hd
      obtain ⟨x, hx, rfl⟩ := Option.map_eq_some_iff.mp hd
      refine ⟨_, rfl, ?_⟩
      dsimp only [List.map_cons, List.map_nil, wipeE, setE, Tgt.js, List.set_cons_zero, List.set_cons_succ]
      unfold Wi.d
      walk_at "x"
      exact ⟨by rw [take_snoc hx, List.map_append, List.map_append]; rfl, _, _, rfl⟩
    rintro acc e ⟨rfl, x4, x5, rfl⟩
    rw [List.length_map, List.take_length]
    try dsimp only [List.map_cons, List.map_nil, wipeE, List.set_cons_zero, List.set_cons_succ]
    walk_at "x"
    refine ⟨b.map (·.s), rfl, by rw [List.length_map]; exact List.length_pos_iff.mpr bne, fun s s1 s2 => ?_⟩
    have hs : IsMin s b := ⟨s1, fun x hx => s2 _ (List.mem_map.mpr ⟨x, hx, rfl⟩)⟩
    walk_at "x"
    refine ⟨cP cs, rfl, ?_⟩
    walk_at "x"
    refine ⟨.inr p.1, .str p.2, rfl, by rw [getP_case, lk]; rfl, ?_⟩
    walk_at "x"
    refine ⟨by rw [List.length_map]; omega, fun i acc e => acc = ((b.take i).map (·.u)).map D.int ∧ ∃ x5, e = [some (.f (.tup [.str oo, .tup (ts.map Ti.d), .tup (xs.map Wi.d)])), some (.f (cD cs)), some (.f (.str p.1)), some (.f (.lst (b.map Wi.d))), some (.f (.int s)), x5], ⟨rfl, _, rfl⟩, ?_, ?_⟩
    · rintro i d acc e hd ⟨rfl, x5, rfl⟩
      rw [List.getElem?_map] at hd
      obtain ⟨x, hx, rfl⟩ := Option.map_eq_some_iff.mp hd
      refine ⟨_, rfl, ?_⟩
      dsimp only [List.map_cons, List.map_nil, wipeE, setE, Tgt.js, List.set_cons_zero, List.set_cons_succ]
      unfold Wi.d
      walk_at "x"
      exact ⟨by rw [take_snoc hx, List.map_append, List.map_append]; rfl, _, rfl⟩
    rintro acc e ⟨rfl, x5, rfl⟩
    rw [List.length_map, List.take_length]
    try dsimp only [List.map_cons, List.map_nil, wipeE, List.set_cons_zero, List.set_cons_succ]
    walk_at "x"
    refine ⟨b.map (·.u), rfl, by rw [List.length_map]; exact List.length_pos_iff.mpr bne, fun u u1 u2 => ?_⟩
    have hu : IsMax u b := ⟨u1, fun x hx => u2 _ (List.mem_map.mpr ⟨x, hx, rfl⟩)⟩
    walk_at "x"
    refine ⟨oo, ts, xs, ⟨p.2, p.1, .non, s, u, 0⟩, rfl, tr, b1, a1, ?_⟩
    cases ht : tieV ts ⟨p.2, p.1, .non, s, u, 0⟩ with
    | false =>
      walk_at "x"
      exact no
    | true =>
      walk_at "x"
      exact ⟨up_next hp hj (by rw [fa]; exact ⟨bne, fun s' u' h1 h2 => by rw [min_uniq h1 hs, max_uniq h2 hu]; exact ht⟩), _, _, _, _, rfl⟩
  rintro e ⟨hj, x2, x3, x4, x5, rfl⟩
  rw [List.length_map] at hj
  walk_at "x"
  have key : ∀ a g, look cs a = some g → FitAt ts xs cs (a, g) := fun a g h => by
    obtain ⟨j, hj2, e⟩ := List.getElem_of_mem (look_mem h)
    exact hj j _ hj2 (by rw [List.getElem?_eq_getElem hj2, e])
  exact q true fun _ => ⟨⟨ac, fun a g h => (key a g h).2⟩, fun a g h => (key a g h).1⟩
def Late (oo : Str) (xs : List Wi) (cs : Case) (y : Str) : Prop := y ∈ xs.map (·.a) ++ cs.map (·.2) ∧ y ≠ oo ∧ y ∉ cs.map (·.1)
def pairsD (cs : Case) : D := .lst (cs.map fun p => .tup [.str p.1, .str p.2])
def wNext' : WFn := fun ds Q => ∃ (oo : Str) (ts : List Ti) (xs : List Wi) (cs : Case), ds = [trustD oo ts xs, pairsD cs] ∧ TrOk oo ts xs ∧ CsOk oo cs ∧ ((∀ y, ¬ Late oo xs cs y) → Q (.f .non)) ∧ ∀ y, Late oo xs cs y → Q (.f (.str y))
theorem mono__law_next : MonoF wNext' := fun ds Q Q' i ⟨oo, ts, xs, cs, h1, h2, h3, q1, q2⟩ => ⟨oo, ts, xs, cs, h1, h2, h3, fun h => i _ (q1 h), fun y h => i _ (q2 y h)⟩
theorem ok_next (T : Txt K mg) (A : At K mg "_law_next" s__law_next ["trust", "case"]) : Cal P w K mg base 1 "_law_next" (spW K tabs (liftF wNext')) := by
  refine A.of fun f fd F => fx_fnF F sc__law_next (fun ds Q ⟨_, _, _, _, h, _⟩ => by rw [h]; rfl) fun cdv A outer s H E TT P0 σ0 hcd hr => ⟨_, (gss_cons (gs_lcFR (i := 2) (own := [("pair", 3)]) (t := .name 3) rfl sc__law_next.nd rfl rfl (sw_true rfl rfl rfl (by decide +kernel)) (gi_list (GE.of_pure (gp_var (pv 1)))) (blkOk_by (own := [("pair", 3)]) (N := ["trust", "case", "settled", "pair", "name", "wish"]) (sc := defScope s__law_next) (by decide +kernel)) (fun _ _ _ _ _ => (pg_name (i := 3) sc__law_next.nd rfl (Or.inl rfl))) (fun _ _ _ _ _ => (GE.of_pure (gp_ix ixx (gp_var (pv 3)) gp_int (fun _ _ => rfl)))) (by decide) (mem1 rfl) (mem1 (Nat.le_of_ble_eq_true rfl)))
      (gss_cons (gs_for PassesOwn.never rfl (gi_list (ge_op opx_add (ge_frz (ge_lcR (own := [("wish", 5)]) (t := .name 5) rfl sc__law_next.nd (gi_tup (GE.of_pure (gp_ix ixx (gp_var (pv 0)) gp_int (fun _ _ => rfl)))) (blkOk_by (own := [("wish", 5)]) (N := ["trust", "case", "settled", "pair", "name", "wish"]) (sc := defScope s__law_next) (by decide +kernel)) (fun _ _ _ _ _ => (pg_name (i := 5) sc__law_next.nd rfl (Or.inl rfl))) (fun _ _ _ _ _ => (GE.of_pure (gp_ix ixx (gp_var (pv 5)) gp_int (fun _ _ => rfl)))) (by decide) (mem1 rfl) (mem1 (Nat.le_of_ble_eq_true rfl)))) (ge_frz (ge_lcR (own := [("pair", 3)]) (t := .name 3) rfl sc__law_next.nd (gi_list (GE.of_pure (gp_var (pv 1)))) (blkOk_by (own := [("pair", 3)]) (N := ["trust", "case", "settled", "pair", "name", "wish"]) (sc := defScope s__law_next) (by decide +kernel)) (fun _ _ _ _ _ => (pg_name (i := 3) sc__law_next.nd rfl (Or.inl rfl))) (fun _ _ _ _ _ => (GE.of_pure (gp_ix ixx (gp_var (pv 3)) gp_int (fun _ _ => rfl)))) (by decide) (mem1 rfl) (mem1 (Nat.le_of_ble_eq_true rfl)))))) (gg_name (pg_name (i := 4) sc__law_next.nd rfl (Or.inl rfl)) rfl)
      (gss_one (gs_if (GW.gt (gw_and (gt_cmpP (opx_ne hr.units) (gp_var (pv 4)) (gp_ix ixx (gp_var (pv 0)) gp_int (fun _ _ => rfl)) (nomark _)) (gw_and1 (gt_cmpP (opx_nin hr.u65) (gp_var (pv 4)) (gp_var (pv 2)) (by rfl)))))
      (gss_one (gs_ret (GE.of_pure (gp_var (pv 4)))))
      gss_nil)))
      (gss_one (gs_ret (GE.of_pure gp_non))))), fun ds Q ⟨oo, ts, xs, cs, e, tr, ok, q1, q2⟩ => ?_⟩
  subst e
  have hx6 := tr.x6
  have hcl := ok.len
  refine x_start (e := [some (.f (.tup [.str oo, .tup (ts.map Ti.d), .tup (xs.map Wi.d)])), some (.f (.lst (cs.map fun p => .tup [.str p.1, .str p.2]))), none, none, none, none]) rfl ?_
  walk_at "x"
  refine ⟨by rw [List.length_map]; omega, fun i acc e => acc = ((cs.take i).map (·.1)).map D.str ∧ ∃ x3, e = [some (.f (.tup [.str oo, .tup (ts.map Ti.d), .tup (xs.map Wi.d)])), some (.f (.lst (cs.map fun p => .tup [.str p.1, .str p.2]))), none, x3, none, none], ⟨rfl, _, rfl⟩, ?_, ?_⟩
  · rintro i d acc e hd ⟨rfl, x3, rfl⟩
    rw [List.getElem?_map] at hd
    obtain ⟨p, hp, rfl⟩ := Option.map_eq_some_iff.mp hd
    refine ⟨_, rfl, ?_⟩
    dsimp only [List.map_cons, List.map_nil, wipeE, setE, Tgt.js, List.set_cons_zero, List.set_cons_succ]
    walk_at "x"
    exact ⟨by rw [take_snoc hp, List.map_append, List.map_append]; rfl, _, rfl⟩
  rintro acc e ⟨rfl, x3, rfl⟩
  rw [List.length_map, List.take_length]
  try dsimp only [List.map_cons, List.map_nil, wipeE, List.set_cons_zero, List.set_cons_succ]
  walk_at "x"
  refine ⟨by rw [List.length_map]; omega, fun i acc e => acc = ((xs.take i).map (·.a)).map D.str ∧ ∃ x3 x5, e = [some (.f (.tup [.str oo, .tup (ts.map Ti.d), .tup (xs.map Wi.d)])), some (.f (.lst (cs.map fun p => .tup [.str p.1, .str p.2]))), some (.f (.lst ((cs.map (·.1)).map D.str))), x3, none, x5], ⟨rfl, _, _, rfl⟩, ?_, ?_⟩
  · rintro i d acc e hd ⟨rfl, x3, x5, rfl⟩
    rw [List.getElem?_map] at hd
    obtain ⟨p, hp, rfl⟩ := Option.map_eq_some_iff.mp hd
    refine ⟨_, rfl, ?_⟩
    dsimp only [List.map_cons, List.map_nil, wipeE, setE, Tgt.js, List.set_cons_zero, List.set_cons_succ]
    unfold Wi.d
    walk_at "x"
    exact ⟨by rw [take_snoc hp, List.map_append, List.map_append]; rfl, _, _, rfl⟩
  rintro acc e ⟨rfl, x3, x5, rfl⟩
  rw [List.length_map, List.take_length]
  try dsimp only [List.map_cons, List.map_nil, wipeE, List.set_cons_zero, List.set_cons_succ]
  walk_at "x"
  refine ⟨by rw [List.length_map]; omega, fun i acc e => acc = ((cs.take i).map (·.2)).map D.str ∧ ∃ x3 x5, e = [some (.f (.tup [.str oo, .tup (ts.map Ti.d), .tup (xs.map Wi.d)])), some (.f (.lst (cs.map fun p => .tup [.str p.1, .str p.2]))), some (.f (.lst ((cs.map (·.1)).map D.str))), x3, none, x5], ⟨rfl, _, _, rfl⟩, ?_, ?_⟩
  · rintro i d acc e hd ⟨rfl, x3, x5, rfl⟩
    rw [List.getElem?_map] at hd
    obtain ⟨p, hp, rfl⟩ := Option.map_eq_some_iff.mp hd
    refine ⟨_, rfl, ?_⟩
    dsimp only [List.map_cons, List.map_nil, wipeE, setE, Tgt.js, List.set_cons_zero, List.set_cons_succ]
    walk_at "x"
    exact ⟨by rw [take_snoc hp, List.map_append, List.map_append]; rfl, _, _, rfl⟩
  rintro acc e ⟨rfl, x3, x5, rfl⟩
  rw [List.length_map, List.take_length]
  try dsimp only [List.map_cons, List.map_nil, wipeE, List.set_cons_zero, List.set_cons_succ]
  walk_at "x"
  rw [← List.map_append]
  have hall : ∀ y ∈ xs.map (·.a) ++ cs.map (·.2), PyData.strOk y = true := fun y hy => by
    rcases List.mem_append.mp hy with hy | hy
    · obtain ⟨x, hx, rfl⟩ := List.mem_map.mp hy
      exact name_cp (tr.hxs x hx).a
    · obtain ⟨p, hp, rfl⟩ := List.mem_map.mp hy
      exact name_cp (ok.b p hp)
  have late : ∀ y, y ∈ xs.map (·.a) ++ cs.map (·.2) → y ≠ oo → y ∉ cs.map (·.1) → Q (.f (.str y)) := fun y a b c => q2 y ⟨a, b, c⟩
  have done : (∀ y ∈ xs.map (·.a) ++ cs.map (·.2), y ≠ oo → y ∈ cs.map (·.1)) → Q (.f .non) := fun h => q1 fun y ⟨a, b, c⟩ => c (h y a b)
  have kok : okPy (.lst ((cs.map (·.1)).map D.str)) = true := okPy_strs fun y hy => by
    obtain ⟨p, hp, rfl⟩ := List.mem_map.mp hy
    exact name_cp (ok.a p hp)
  generalize xs.map (·.a) ++ cs.map (·.2) = all at hall late done
  refine ⟨fun i e => (∀ j y, j < i → all[j]? = some y → y ≠ oo → y ∈ cs.map (·.1)) ∧ ∃ x3 x4 x5, e = [some (.f (.tup [.str oo, .tup (ts.map Ti.d), .tup (xs.map Wi.d)])), some (.f (.lst (cs.map fun p => .tup [.str p.1, .str p.2]))), some (.f (.lst ((cs.map (·.1)).map D.str))), x3, x4, x5], ⟨fun j y h => absurd h (Nat.not_lt_zero _), _, _, _, rfl⟩, ?_, ?_⟩
  · rintro i d e hd ⟨hj, x3, x4, x5, rfl⟩
    obtain ⟨y, hy, rfl⟩ := at_map hd
    have ym := List.mem_of_getElem? hy
    walk_at "x"
    refine x_neD (okPy_str (hall y ym)) (okPy_str (name_cp tr.hoo)) ?_
    rw [eq_strs]
    cases hc : y == oo with
    | true =>
      walk_at "x"
      exact ⟨up_next hy hj fun h => absurd (eq_of_beq hc) h, _, _, _, rfl⟩
    | false =>
    walk_at "x"
    refine x_ninL (okPy_str (hall y ym)) kok ?_
    rw [mem_strs]
    cases hm : (cs.map (·.1)).contains y with
    | true =>
      walk_at "x"
      exact ⟨up_next hy hj fun _ => by simpa using hm, _, _, _, rfl⟩
    | false =>
      walk_at "x"
      exact late y ym (fun e => by rw [e, beq_self_eq_true] at hc; cases hc) (by simpa using hm)
  rintro e ⟨hj, x3, x4, x5, rfl⟩
  rw [List.length_map] at hj
  walk_at "x"
  refine done fun y hy => ?_
  obtain ⟨j, hj2, e⟩ := List.getElem_of_mem hy
  exact hj j y hj2 (by rw [List.getElem?_eq_getElem hj2, e])
def Tied (ts : List Ti) (a y : Str) : Prop := ∃ t ∈ ts, t.b = a ∧ t.a = y
def tiedB (a : Str) (t : Ti) : Bool := t.b == a
def wTied : WFn := fun ds Q => ∃ (oo : Str) (ts : List Ti) (xs : List Wi) (a : Str), ds = [trustD oo ts xs, .str a] ∧ TrOk oo ts xs ∧ PyData.strOk a = true ∧ ∀ ys : List Str, ys.length ≤ 20 → (∀ y, y ∈ ys ↔ Tied ts a y) → Q (.f (.lst (ys.map D.str)))
theorem mono__law_tied : MonoF wTied := fun ds Q Q' i ⟨oo, ts, xs, cs, h1, h2, h3, q⟩ => ⟨oo, ts, xs, cs, h1, h2, h3, fun y h g => i _ (q y h g)⟩
theorem ok_tied (T : Txt K mg) (A : At K mg "_law_tied" s__law_tied ["trust", "actor"]) : Cal P w K mg base 1 "_law_tied" (spW K tabs (liftF wTied)) := by
  refine A.of fun f fd F => fx_fnF F sc__law_tied (fun ds Q ⟨_, _, _, _, h, _⟩ => by rw [h]; rfl) fun cdv A outer s H E TT P0 σ0 hcd hr => ⟨_, (gss_one (gs_ret (ge_sortedSets rfl (by rfl) T.z_sorted (by rfl) T.z_set (ge_frz (ge_lcR1 (own := [("tie", 2)]) (t := .name 2) rfl sc__law_tied.nd (gi_tup (GE.of_pure (gp_ix ixx (gp_var (pv 0)) gp_int (fun _ _ => rfl)))) (blkOk_by (own := [("tie", 2)]) (N := ["trust", "actor", "tie"]) (sc := defScope s__law_tied) (by decide +kernel)) (fun _ _ _ _ _ => (pg_name (i := 2) sc__law_tied.nd rfl (Or.inl rfl))) (fun _ _ _ _ _ => (gt_cmpP (opx_eq hr.units) (gp_ix ixx (gp_var (pv 2)) gp_int (fun _ _ => rfl)) (gp_var (pv 1)) (nomark _))) (fun _ _ _ _ _ => (GE.of_pure (gp_ix ixx (gp_var (pv 2)) gp_int (fun _ _ => rfl)))) (by decide) (mem1 rfl) (mem1 (Nat.le_of_ble_eq_true rfl))))))), fun ds Q ⟨oo, ts, xs, a, e, tr, ha, q⟩ => ?_⟩
  subst e
  have htl := tr.tl
  refine x_start (e := [some (.f (.tup [.str oo, .tup (ts.map Ti.d), .tup (xs.map Wi.d)])), some (.f (.str a)), none]) rfl ?_
  walk_at "x"
  refine ⟨by rw [List.length_map]; omega, fun i acc e => acc = (((ts.take i).filter (tiedB a)).map (·.a)).map D.str ∧ ∃ x2, e = [some (.f (.tup [.str oo, .tup (ts.map Ti.d), .tup (xs.map Wi.d)])), some (.f (.str a)), x2], ⟨rfl, _, rfl⟩, ?_, ?_⟩
  · rintro i d acc e hd ⟨rfl, x2, rfl⟩
    rw [List.getElem?_map] at hd
    obtain ⟨t, ht, rfl⟩ := Option.map_eq_some_iff.mp hd
    have tok := tr.hts t (List.mem_of_getElem? ht)
    refine ⟨_, rfl, ?_⟩
    dsimp only [List.map_cons, List.map_nil, wipeE, setE, Tgt.js, List.set_cons_zero, List.set_cons_succ]
    rw [show t.d = .tup [.str t.a, .str t.b, .int t.s, .int t.u] from rfl]
    walk_at "x"
    refine x_eqD (okPy_str (name_cp tok.b)) (okPy_str ha) ?_
    rw [eq_strs]
    cases hc : t.b == a with
    | true =>
      walk_at "x"
      exact ⟨by rw [take_snoc ht, List.filter_append, List.filter_cons_of_pos (show tiedB a t = true from hc), List.filter_nil, List.map_append, List.map_append]; rfl, _, rfl⟩
    | false =>
      walk_at "x"
      exact ⟨by rw [take_snoc ht, List.filter_append, List.filter_cons_of_neg (by rw [show tiedB a t = false from hc]; decide), List.filter_nil, List.append_nil], _, rfl⟩
  rintro acc e ⟨rfl, x2, rfl⟩
  rw [List.length_map, List.take_length]
  try dsimp only [List.map_cons, List.map_nil, wipeE, List.set_cons_zero, List.set_cons_succ]
  walk_at "x"
  have hle : (((ts.filter (tiedB a)).map (·.a))).length ≤ 20 := by rw [List.length_map]; exact Nat.le_trans (List.length_filter_le ..) htl
  refine ⟨(ts.filter (tiedB a)).map (·.a), rfl, Nat.lt_of_le_of_lt (dst_le fun _ h => h) (by omega), by omega, fun ys n2 s2 mm => ?_⟩
  walk_at "x"
  refine q ys (Nat.le_trans (nodup_le n2 fun y hy => (mm y).mp hy) hle) fun y => (mm y).trans ⟨fun hy => ?_, fun ⟨t, h1, h2, h3⟩ => ?_⟩
  · obtain ⟨t, h1, h2⟩ := List.mem_map.mp hy
    obtain ⟨h3, h4⟩ := List.mem_filter.mp h1
    exact ⟨t, h3, eq_of_beq h4, h2⟩
  · exact List.mem_map.mpr ⟨t, List.mem_filter.mpr ⟨h1, beq_iff_eq.mpr h2⟩, h3⟩

end
end K75

namespace K75
open PySem PySem.Spec PyProof.Rows L2 Lk Evl Fx



local macro_rules | `(tactic| walk_at "sz") => `(tactic| first
  | exact Nat.le_of_ble_eq_true rfl
  | assumption
  | exact small_sz (Nat.le_of_ble_eq_true rfl)
  | (simp only [List.length_cons, List.length_nil, List.length_map, List.length_append]; first | omega | exact small_sz (by omega)))
local macro_rules | `(tactic| walk_at "x1") => `(tactic| first
  | with_reducible refine x_seq ?_
  | (with_reducible show wVar _ _ _); first | refine x_varF rfl ?_ | refine x_varO rfl ?_ | refine x_varV rfl ?_
  | with_reducible refine x_c ?_
  | with_reducible refine x_exf ?_
  | with_reducible refine x_excd ?_
  | (with_reducible show ∃ d1, Sl.cd (Sl.vw _) = some d1 ∧ _); refine x_excV rfl ?_
  | (with_reducible show ∃ d1, Sl.cd (Sl.own _) = some d1 ∧ _); refine x_excO rfl ?_
  | with_reducible refine x_binP ?_
  | with_reducible refine x_bin ?_
  | with_reducible refine x_adC ?_
  | with_reducible refine x_adN ?_
  | with_reducible refine x_lst ?_
  | with_reducible refine x_tup ?_
  | with_reducible refine x_lstO ?_
  | (with_reducible refine x_and (p := _ ≤ sizeLine) ?h ?_); (case h => walk_at "sz")
  | with_reducible refine x_callF ?_
  | with_reducible refine x_callL ?_
  | with_reducible refine x_listO ?_
  | (with_reducible show wCallU _ _ _ _ _); refine x_callU rfl ?_
  | with_reducible refine x_callV ?_
  | with_reducible refine x_join ?_
  | with_reducible refine x_waD ?_
  | with_reducible refine x_lc ?_
  | with_reducible refine x_lc2 ?_
  | with_reducible refine x_lenSets ?_
  | (with_reducible show wApp _ _ _ _); refine x_app rfl ?_
  | (with_reducible show wBinV _ _ _ _ _); refine x_binV rfl ?_
  | (with_reducible show wPopD _ _ _ _); refine x_popD rfl ?_
  | (with_reducible show wCatV _ _ _ _); refine x_catV rfl ?_
  | with_reducible refine x_slN2 ?_
  | with_reducible refine x_sortedSets ?_
  | with_reducible refine x_tplL ?_
  | with_reducible refine x_tplT ?_
  | with_reducible refine x_isB ?_
  | with_reducible refine x_r1 ?_
  | with_reducible refine x_r2 ?_
  | (with_reducible refine x_r1e ?h0 ?h1 ?_); (case h0 => omega); (case h1 => omega)
  | with_reducible refine x_iL ?_
  | with_reducible refine x_iT ?_
  | with_reducible refine x_iS ?_
  | with_reducible refine x_iE ?_
  | with_reducible refine x_iEe ?_
  | with_reducible refine x_yes ?_
  | with_reducible refine x_for ?_
  | (with_reducible show wLot _ [D.int _] _); (refine' x_lot (by assumption) ?h1 ?h2 ?h3 ?_); (case h1 => omega); (case h2 => first | decide | omega); (case h3 => first | decide | omega)
  | (with_reducible show ∃ o, _ = some (some (Sl.own o)) ∧ _); refine x_exO rfl ?_
  | with_reducible refine x_exo ?_
  | with_reducible refine x_ret ?_
  | with_reducible refine x_set ?_
  | with_reducible refine x_fin ?_
  | with_reducible refine x_fino ?_
  | (with_reducible refine x_and (p := _ < List.length _) ?h ?_); (case h => exact Nat.le_of_ble_eq_true rfl); (try dsimp only [List.set_cons_succ, List.set_cons_zero])
  | with_reducible refine x_next ?_
  | with_reducible refine x_retN ?_
  | with_reducible refine x_drop ?_
  | with_reducible refine x_asg ?_
  | (with_reducible refine x_gtp ?h ?_); (case h => rfl)
  | with_reducible refine x_gcons ?_
  | with_reducible refine x_gnil ?_
  | (with_reducible refine x_gn ?h ?_); (case h => exact Nat.le_of_ble_eq_true rfl); (try dsimp only [List.set_cons_succ, List.set_cons_zero])
  | with_reducible refine x_ifS ?_
  | with_reducible refine x_if ?_
  | with_reducible refine x_itT ?_
  | with_reducible refine x_itF ?_
  | with_reducible refine x_iteN ?_
  | with_reducible refine x_tru ?_
  | with_reducible refine x_tB ?_
  | with_reducible refine x_dtB ?_
  | with_reducible refine x_dtN ?_
  | with_reducible refine x_exb ?_
  | with_reducible refine x_exdb ?_
  | with_reducible refine x_tand ?_
  | with_reducible refine x_tor ?_
  | with_reducible refine x_tnot ?_
  | with_reducible refine x_and2 ?_
  | with_reducible refine x_or2 ?_
  | with_reducible refine x_not2 ?_
  | with_reducible refine x_chain ?_
  | with_reducible refine x_sub ?_
  | with_reducible refine x_addI ?_
  | (with_reducible refine x_addS ?h ?_); (case h => walk_at "sz")
  | (with_reducible refine x_addL ?h ?_); (case h => walk_at "sz")
  | (with_reducible refine x_addT ?h ?_); (case h => walk_at "sz")
  | with_reducible refine x_lt ?_
  | with_reducible refine x_le ?_
  | with_reducible refine x_gt ?_
  | with_reducible refine x_ge ?_
  | with_reducible refine x_ltS ?_
  | with_reducible refine x_eqI ?_
  | with_reducible refine x_neI ?_
  | with_reducible refine x_allSg ?_
  | with_reducible refine x_m0 ?_
  | with_reducible refine x_lstT ?_
  | with_reducible refine x_lstL ?_
  | with_reducible refine x_strB ?_
  | with_reducible refine x_strN ?_
  | with_reducible refine x_strS ?_
  | with_reducible refine x_isT ?_
  | with_reducible refine x_isI ?_
  | with_reducible refine x_neg ?_
  | with_reducible refine x_un ?_
  | (with_reducible refine x_pow ?h ?_); (case h => exact ⟨by decide, by decide +kernel⟩)
  | (with_reducible refine x_mod ?h ?_); (case h => first | decide | omega)
  | (with_reducible refine x_mul ?h ?_); (case h => exact mul_ok (by first | decide | omega) (by first | decide | omega))
  | (with_reducible refine x_div ?h ?_); (case h => exact div_ok (by first | decide | omega) (by first | decide | omega))
  | with_reducible refine x_ipA ?_
  | (with_reducible show wAugL _ _ _ _ _ _); refine x_augL rfl ?_
  | (with_reducible show wAug _ _ _ _ _); refine x_aug rfl ?_
  | (with_reducible show ∃ k' ds d, Sl.f (D.int _) = Sl.f (D.int k') ∧ _); refine x_augL1 rfl (by decide) rfl ?_
  | (with_reducible show ∃ k' j ds, Sl.f (D.int _) = Sl.f (D.int k') ∧ _ = some (some (Sl.own (O.lst ds))) ∧ ixN _ k' = some j ∧ _); refine x_setL1 rfl rfl ?_; (try dsimp only [List.set_cons_succ, List.set_cons_zero])
  | (with_reducible show ∃ ds j, _ = some (some (Sl.own (O.lst ds))) ∧ ixN _ _ = some j ∧ _); refine x_augL2 rfl rfl ?_; (try dsimp only [List.set_cons_succ, List.set_cons_zero])
  | (with_reducible show gSetL _ _ _ _ _); refine x_setL rfl ?_
  | (with_reducible show dIx (D.lst _) (D.int _) _); refine x_ixL rfl ?_
  | (with_reducible show dIx (D.tup _) (D.int _) _); refine x_ixT rfl ?_
  | with_reducible refine x_cb ?_
  | (with_reducible show wCB1 _ _ _ _); refine x_cb1 rfl rfl ?_
  | with_reducible refine x_fm ?_
  | with_reducible refine x_exl ?_
  | with_reducible refine x_ext ?_
  | with_reducible refine x_exs ?_
  | with_reducible refine x_exi ?_
  | with_reducible refine x_sl ?_
  | with_reducible refine x_slN ?_
  | with_reducible refine x_slS ?_
  | with_reducible refine x_frz ?_
  | with_reducible refine x_frL ?_
  | with_reducible refine x_revT ?_
  | with_reducible refine x_revL ?_
  | with_reducible refine x_splitO ?_
  | (with_reducible show wSlO _ _ _ _ _); refine x_slO rfl ?_
  | (with_reducible show ∃ ds2, _ = some (some (Sl.own (O.lst ds2))) ∧ _); refine x_exOl rfl ?_
  | with_reducible refine x_dictO ?_
  | with_reducible refine x_psC ?_
  | with_reducible refine x_psN ?_
  | with_reducible refine x_get ?_
  | (with_reducible show gSetSl _ _ _ _ _ _); refine x_setSl rfl ?_
  | with_reducible refine x_split ?_
  | with_reducible refine x_isN1 ?_
  | with_reducible refine x_isN0 rfl ?_
  | with_reducible refine x_iZ ?_
  | with_reducible refine x_zT ?_
  | with_reducible refine x_zL ?_
  | with_reducible refine x_stp ?_
  | with_reducible refine x_js ?_
  | with_reducible refine x_jsC ?_
  | with_reducible refine x_jsN ?_
  | with_reducible refine x_fmt ?_
  | with_reducible refine x_callFX ?_
  | (with_reducible refine x_glp ?h ?_); (case h => rfl)
  | with_reducible refine x_raiseR ?_
  | with_reducible refine x_row ?_
  | with_reducible refine x_lenL ?_
  | with_reducible refine x_lenT ?_
  | with_reducible refine x_lenD ?_
  | (with_reducible refine x_lenS ?h ?_); (case h => walk_at "sz")
  | with_reducible refine x_max ?_
  | with_reducible refine x_min ?_
  | with_reducible refine x_intI ?_
  | with_reducible refine x_intB ?_
  | (with_reducible refine x_isInt ?h ?_); (case h => first | assumption | exact part_ty (by assumption) | (intro _ hh; cases hh; done))
  | (with_reducible refine x_isBl ?h ?_); (case h => first | assumption | exact part_ty (by assumption) | (intro _ hh; cases hh; done))
  | (with_reducible refine x_isStr ?h ?_); (case h => first | assumption | exact part_ty (by assumption) | (intro _ hh; cases hh; done))
  | (with_reducible refine x_isTup ?h ?_); (case h => first | assumption | exact part_ty (by assumption) | (intro _ hh; cases hh; done))
  | (with_reducible refine x_isLst ?h ?_); (case h => first | assumption | exact part_ty (by assumption) | (intro _ hh; cases hh; done))
  | (with_reducible refine x_isDic ?h ?_); (case h => first | assumption | exact part_ty (by assumption) | (intro _ hh; cases hh; done))
  | (with_reducible refine x_itTe ?e ?_); (case e => rfl)
  | (with_reducible refine x_itFe ?e ?_); (case e => rfl)
  | with_reducible refine x_dnewO ?_
  | with_reducible refine x_dput ?_
  | with_reducible refine x_dix ?_
  | with_reducible refine x_sortedD ?_
  | with_reducible refine x_star ?_
  | with_reducible refine x_starT ?_
  | with_reducible refine x_frzD ?_
  | with_reducible refine x_sw ?_
  | with_reducible refine x_cnt ?_
  | with_reducible refine x_waC ?_
  | with_reducible refine x_waN ?_
  | with_reducible refine x_lenDD ?_
  | with_reducible refine x_allX ?_
  | (with_reducible show wFz _ _ _ _); refine x_fz rfl ?_
  | (with_reducible show wFzS _ _ _ _); refine x_fzS rfl ?_
  | (with_reducible show wFzO _ _ _ _); refine x_fzO rfl ?_
  | (with_reducible show wiK _ _ _); refine x_iK rfl ?_
  | (with_reducible show wiIt _ _ _); refine x_iIt rfl ?_
  | with_reducible refine x_iE1 ?_
  | with_reducible refine x_forR ?_
  | (with_reducible show wDIxV _ _ _ _); refine x_dixV rfl (cd_dicO _) ?_
  | (with_reducible show wDPop _ _ _ _); refine x_dpop rfl ?_
  | with_reducible refine x_pickO ?_
  | (with_reducible show wExt _ _ _ _); refine x_extO rfl ?_
  | with_reducible refine x_sortedR ?_
  | with_reducible refine x_sortedL ?_
  | with_reducible refine x_ixSt ?_
  | (with_reducible show wiVal _ _ _); refine x_iVal rfl ?_
  | with_reducible refine x_dictP ?_
  | with_reducible refine x_dictZip ?_
  | with_reducible refine x_revS ?_
  | with_reducible refine x_par ?_
  | (with_reducible show wIsiV _ _ _ _ _); refine x_isiV rfl ?_
  | ((with_reducible show _ ∧ _); refine And.intro (Nat.le_of_ble_eq_true rfl) ?_))
local macro_rules | `(tactic| walk_at "x") => `(tactic| repeat (walk_at "x1"))

section
variable {P : Program} {w : World} {K : PySem.W.Frag} {mg : Str → Option Value} {base : Heap} {tabs : List Addr}
/-! ### cases drawn -/
def CaseOk (oo : Str) (ts : List Ti) (xs : List Wi) (cs : Case) : Prop := CsOk oo cs ∧ Closed oo xs cs ∧ Fits ts xs cs ∧ FitsB xs cs
def Goal (oo : Str) (xs : List Wi) (cs : Case) (gd : D) : Prop := (gd = .non ∧ ∀ y, ¬ Late oo xs cs y) ∨ ∃ y, gd = .str y ∧ Late oo xs cs y
theorem next_all {oo : Str} {ts : List Ti} {xs : List Wi} {cs : Case} {Q : Sl → Prop} (tr : TrOk oo ts xs) (ok : CsOk oo cs) (h : ∀ gd, flatD gd = true → Goal oo xs cs gd → Q (.f gd)) : wNext' [trustD oo ts xs, .lst (cs.map fun p => .tup [.str p.1, .str p.2])] Q :=
  ⟨oo, ts, xs, cs, rfl, tr, ok, fun k => h _ rfl (.inl ⟨rfl, k⟩), fun y k => h _ rfl (.inr ⟨y, rfl, k⟩)⟩
theorem csOk_nil (oo : Str) : CsOk oo [] := ⟨.nil, nofun, nofun, nofun, nofun, by decide⟩
theorem pairs_case (cs : Case) : (cs.map fun p => D.tup [.str p.1, .str p.2]) = (cP cs).map Fx.pairD := by
  unfold cP
  rw [List.map_map]
  rfl
theorem keys_case (cs : Case) : (cP cs).map (·.1) = (cs.map (·.1)).map Sum.inr := by
  unfold cP
  rw [List.map_map, List.map_map]
  rfl
theorem put_new {acc : List (Key × D)} {k : Key} {d : D} (h : ∀ p ∈ acc, p.1 ≠ k) : putP acc k d = acc ++ [(k, d)] := by
  unfold putP
  rw [if_neg]
  rw [Bool.not_eq_true, List.any_eq_false]
  intro p hp
  simpa using h p hp
theorem merge_new : ∀ (l acc : List (Key × D)), ((acc ++ l).map (·.1)).Nodup → mergeP acc l = acc ++ l
  | [], acc, _ => by rw [List.append_nil]; rfl
  | (k, v) :: l, acc, nd => by
    have n1 : ∀ p ∈ acc, p.1 ≠ k := fun p hp e => by
      rw [List.map_append, List.nodup_append] at nd
      exact nd.2.2 p.1 (List.mem_map.mpr ⟨p, hp, rfl⟩) k (List.mem_map.mpr ⟨(k, v), List.mem_cons_self .., rfl⟩) e
    show mergeP (putP acc k v) l = _
    rw [put_new n1, merge_new l (acc ++ [(k, v)]) (by rw [List.append_assoc]; exact nd), List.append_assoc]
    rfl
theorem nodup_inr : ∀ {l : List Str}, l.Nodup → (l.map (Sum.inr : Str → Key)).Nodup := fun h => List.Pairwise.map _ (fun a b n e => n (Sum.inr.inj e)) h
def wCase : WUn := fun o ds Q => ∃ (n : Nat) (oo : Str) (ts : List Ti) (xs : List Wi) (ns : List Str), ds = [trustD oo ts xs] ∧ TrOk oo ts xs ∧ Among (oo :: ns) ts xs ∧ ns.length ≤ 5 ∧ Un o n ∧ n + 10 ≤ 100000 ∧
  (∀ o', Un o' (n + 10) → Q (.f .non) o') ∧ ∀ cs o', Un o' (n + 10) → CaseOk oo ts xs cs → Q (.f (cD cs)) o'
theorem mono__law_case : MonoU2 wCase := fun o ds Q Q' i ⟨n, oo, ts, xs, ns, h1, h2, h3, h4, h5, h6, q1, q2⟩ => ⟨n, oo, ts, xs, ns, h1, h2, h3, h4, h5, h6, fun o u => i _ _ (q1 o u), fun cs o u h => i _ _ (q2 cs o u h)⟩
theorem ok_case (T : Txt K mg) (c__law_draw : Cal P w K mg base 1 "_law_draw" (spW K tabs (liftU wLot))) (c__law_next : Cal P w K mg base 1 "_law_next" (spW K tabs (liftF wNext'))) (c__law_tied : Cal P w K mg base 1 "_law_tied" (spW K tabs (liftF wTied)))
    (c__law_fits : Cal P w K mg base 3 "_law_fits" (spW K tabs (liftF wFits))) (A : At K mg "_law_case" s__law_case ["pool", "trust"]) : Cal P w K mg base 4 "_law_case" (spW K tabs (liftU wCase)) := by
  refine A.of fun f fd F => fx_fnU F sc__law_case (fun o ds Q ⟨_, _, _, _, _, h, _⟩ => by rw [h]; rfl) fun cdv A outer s H E TT P0 σ0 hcd hr => ⟨_, (gss_cons (gs_setE (i := 2) sc__law_case.nd rfl (Or.inl rfl) (ge_lstOD gd_nil))
      (gss_cons (gs_setE (i := 3) sc__law_case.nd rfl (Or.inl rfl) (ge_callL (i := 2) c__law_next hr (by decide) rfl rfl rfl mono__law_next (GE.of_pure (gp_var (pv 1))) (pv 2)))
      (gss_cons (gs_while PassesOwn.never (GW.gt (gw_and (gt_cmpP opx_notN (gp_var (pv 3)) gp_non (nomark _)) (gw_and1 (gt_cmp (opx_ne hr.units) (ge_callF c__law_tied hr (by decide) rfl rfl rfl mono__law_tied (gd_cons (GE.of_pure (gp_var (pv 1))) (gd_cons (GE.of_pure (gp_var (pv 3))) gd_nil))) (ge_lstD gd_nil) (nomark _)))))
      (gss_cons (gs_setE (i := 4) sc__law_case.nd rfl (Or.inl rfl) (ge_callF c__law_tied hr (by decide) rfl rfl rfl mono__law_tied (gd_cons (GE.of_pure (gp_var (pv 1))) (gd_cons (GE.of_pure (gp_var (pv 3))) gd_nil))))
      (gss_cons (gs_append (pv 2) (gd_cons (ge_tupD (gd_cons (GE.of_pure (gp_var (pv 3))) (gd_cons (ge_ix ixx (GE.of_pure (gp_var (pv 4))) (ge_callU c__law_draw hr (by decide) rfl rfl rfl mono__law_draw (pv 0) (gd_cons (ge_cbB1 cax_len (by rfl) T.z_len (by decide +kernel) (pv 4)) gd_nil)) (fun _ _ => rfl)) gd_nil))) gd_nil))
      (gss_one (gs_setE (i := 3) sc__law_case.nd rfl (Or.inl rfl) (ge_callL (i := 2) c__law_next hr (by decide) rfl rfl rfl mono__law_next (GE.of_pure (gp_var (pv 1))) (pv 2)))))))
      (gss_cons (gs_setE (i := 5) sc__law_case.nd rfl (Or.inl rfl) (ge_frz (ge_dictP rfl rfl T.z_dict (ge_move (pv 2)))))
      (gss_cons (gs_if (GW.gt (gw_and (gt_cmpP opx_isN (gp_var (pv 3)) gp_non (nomark _)) (gw_and1 (gt_tru (ge_callF c__law_fits hr (by decide) rfl rfl rfl mono__law_fits (gd_cons (GE.of_pure (gp_var (pv 1))) (gd_cons (GE.of_pure (gp_var (pv 5))) gd_nil)))))))
      (gss_one (gs_ret (GE.of_pure (gp_var (pv 5)))))
      gss_nil)
      (gss_one (gs_ret (GE.of_pure gp_non)))))))), fun o ds Q ⟨n, oo, ts, xs, ns, e, tr, am, nl, u, hn, q1, q2⟩ => ?_⟩
  subst e
  have hx6 := tr.x6
  refine x_start (e := [some (.own o), some (.f (.tup [.str oo, .tup (ts.map Ti.d), .tup (xs.map Wi.d)])), none, none, none, none]) rfl ?_
  walk_at "x"
  refine ⟨_, _, rfl, rfl, next_all (cs := []) tr (csOk_nil oo) fun gd fl hg => ⟨gd, rfl, fl, ?_⟩⟩
  walk_at "x"
  have nol := am
  refine ⟨fun m e => ∃ (o' : O) (cs : Case) (gd : D) (x4 : Option Sl), m + cs.length = 6 ∧ Un o' (n + cs.length) ∧ CsOk oo cs ∧ (∀ p ∈ cs, p.1 ∈ ns) ∧ (∀ p ∈ cs, p.2 ∈ oo :: ns) ∧ Goal oo xs cs gd ∧ e = [some (.own o'), some (.f (.tup [.str oo, .tup (ts.map Ti.d), .tup (xs.map Wi.d)])), some (.own (.lst (cs.map fun p => .tup [.str p.1, .str p.2]))), some (.f gd), x4, none], ⟨6, o, [], gd, _, rfl, u, csOk_nil oo, nofun, nofun, hg, rfl⟩, ?_⟩
  rintro m e ⟨o', cs, gd, x4, hm, u', ok, hk, hk2, hg, rfl⟩
  have hcl := ok.len
  have mgc : mergeP [] (cP cs) = cP cs := by
    have := merge_new (cP cs) [] (by rw [List.nil_append, keys_case]; exact nodup_inr ok.nd)
    rwa [List.nil_append] at this
  rcases hg with ⟨rfl, hno⟩ | ⟨y, rfl, hy⟩
  · walk_at "x"
    refine ⟨_, _, rfl, rfl, cP cs, by rw [pairs_case], ?_⟩
    rw [mgc]
    refine ⟨_, _, rfl, cd_dicO (cP cs), ?_⟩
    walk_at "x"
    refine ⟨oo, ts, xs, cs, rfl, tr, ok, fun b hb => ?_⟩
    cases b with
    | false =>
      walk_at "x"
      exact q1 o' (u'.mono (by omega))
    | true =>
      walk_at "x"
      have key : ∀ y, y ∈ cs.map (·.1) → ∃ g, look cs y = some g := fun y h => by
        obtain ⟨p, hp, rfl⟩ := List.mem_map.mp h
        exact ⟨p.2, look_of ok.nd hp⟩
      have cl : Closed oo xs cs := by
        refine ⟨fun x hx => key _ ?_, fun p hp => ?_⟩
        · exact Classical.byContradiction fun n => hno x.a ⟨List.mem_append_left _ (List.mem_map.mpr ⟨x, hx, rfl⟩), tr.no x hx, n⟩
        · by_cases e : p.2 = oo
          · exact .inl e
          · exact .inr (key _ (Classical.byContradiction fun n => hno p.2 ⟨List.mem_append_right _ (List.mem_map.mpr ⟨p, hp, rfl⟩), e, n⟩))
      exact q2 cs o' (u'.mono (by omega)) ⟨ok, cl, (hb rfl).1, (hb rfl).2⟩
  · have yn : y ∈ ns ∧ nameB (.str y) = true := by
      obtain ⟨h1, h2, h3⟩ := hy
      rcases List.mem_append.mp h1 with h1 | h1
      · obtain ⟨x, hx, rfl⟩ := List.mem_map.mp h1
        exact ⟨(List.mem_cons.mp (am.2 x hx)).resolve_left h2, (tr.hxs x hx).a⟩
      · obtain ⟨p, hp, rfl⟩ := List.mem_map.mp h1
        exact ⟨(List.mem_cons.mp (hk2 p hp)).resolve_left h2, ok.b p hp⟩
    walk_at "x"
    refine ⟨oo, ts, xs, y, rfl, tr, name_cp yn.2, fun ys yl ym => ?_⟩
    have tok : ∀ z, Tied ts y z → nameB (.str z) = true ∧ z ∈ oo :: ns ∧ z ≠ y := fun z ⟨t, h1, h2, h3⟩ => by
      have o := tr.hts t h1
      rw [← h2, ← h3]
      exact ⟨o.a, (am.1 t h1).1, o.ab⟩
    walk_at "x"
    refine x_neD (okPy_strs fun z hz => name_cp (tok z ((ym z).mp hz)).1) (by decide +kernel) ?_
    rw [eqB_nil]
    cases hys : ys.isEmpty with
    | true =>
      walk_at "x"
      refine ⟨_, _, rfl, rfl, cP cs, by rw [pairs_case], ?_⟩
      rw [mgc]
      refine ⟨_, _, rfl, cd_dicO (cP cs), ?_⟩
      walk_at "x"
      exact q1 o' (u'.mono (by omega))
    | false =>
    walk_at "x"
    refine ⟨oo, ts, xs, y, rfl, tr, name_cp yn.2, fun zs zl zm => ?_⟩
    have zpos : 0 < zs.length := by
      cases ys with
      | nil => cases hys
      | cons z ys =>
        cases zs with
        | nil => exact absurd ((zm z).mpr ((ym z).mp (List.mem_cons_self ..))) nofun
        | cons a zs => exact Nat.succ_pos _
    walk_at "x"
    rw [List.length_map]
    walk_at "x"
    intro c o2 c0 c1 u2
    walk_at "x"
    refine ix_name c0 (by omega) fun g hg => ?_
    have gt := tok g ((zm g).mp (List.mem_of_getElem? hg))
    walk_at "x"
    refine x_appE rfl (by rw [List.length_map]; omega) ?_
    have em : (cs.map fun p => D.tup [.str p.1, .str p.2]) ++ [.tup [.str y, .str g]] = (cs ++ [(y, g)]).map fun p => D.tup [.str p.1, .str p.2] := by
      rw [List.map_append]
      rfl
    rw [em]
    have mem2 : ∀ {P : Str × Str → Prop}, (∀ p ∈ cs, P p) → P (y, g) → ∀ p ∈ cs ++ [(y, g)], P p := fun h1 h2 p hp => by
      rcases List.mem_append.mp hp with hp | hp
      · exact h1 p hp
      · rw [List.mem_singleton.mp hp]
        exact h2
    have nd2 : ((cs ++ [(y, g)]).map (·.1)).Nodup := by
      rw [List.map_append, List.nodup_append]
      exact ⟨ok.nd, List.nodup_cons.mpr ⟨nofun, .nil⟩, fun a ha b hb e => hy.2.2 (by have e2 : b = y := List.mem_singleton.mp hb; rw [← e2, ← e]; exact ha)⟩
    have hk3 := mem2 (P := fun p => p.1 ∈ ns) hk yn.1
    have len5 : (cs ++ [(y, g)]).length ≤ 5 := by
      have := nodup_le (l := (cs ++ [(y, g)]).map (·.1)) (m := ns) nd2 fun z hz => by
        obtain ⟨p, hp, rfl⟩ := List.mem_map.mp hz
        exact hk3 p hp
      rw [List.length_map] at this
      omega
    have ok2 : CsOk oo (cs ++ [(y, g)]) := ⟨nd2, mem2 ok.a yn.2, mem2 ok.b gt.1, mem2 ok.ne gt.2.2, mem2 ok.no hy.2.1, len5⟩
    walk_at "x"
    refine ⟨_, _, rfl, rfl, next_all tr ok2 fun gd2 fl2 hg2 => ⟨gd2, rfl, fl2, ?_⟩⟩
    walk_at "x"
    rw [List.length_append, List.length_singleton] at len5
    exact ⟨m - 1, by omega, o2, cs ++ [(y, g)], gd2, _, by rw [List.length_append, List.length_singleton]; omega, u2.mono (by rw [List.length_append, List.length_singleton]; omega), ok2, hk3, mem2 hk2 gt.2.1, hg2, rfl⟩

end
end K75

namespace K75
open PySem PySem.Spec PyProof.Rows L2 Lk Evl Fx



local macro_rules | `(tactic| walk_at "sz") => `(tactic| first
  | exact Nat.le_of_ble_eq_true rfl
  | assumption
  | exact small_sz (Nat.le_of_ble_eq_true rfl)
  | (simp only [List.length_cons, List.length_nil, List.length_map, List.length_append]; first | omega | exact small_sz (by omega)))
local macro_rules | `(tactic| walk_at "x1") => `(tactic| first
  | with_reducible refine x_seq ?_
  | (with_reducible show wVar _ _ _); first | refine x_varF rfl ?_ | refine x_varO rfl ?_ | refine x_varV rfl ?_
  | with_reducible refine x_c ?_
  | with_reducible refine x_exf ?_
  | with_reducible refine x_excd ?_
  | (with_reducible show ∃ d1, Sl.cd (Sl.vw _) = some d1 ∧ _); refine x_excV rfl ?_
  | (with_reducible show ∃ d1, Sl.cd (Sl.own _) = some d1 ∧ _); refine x_excO rfl ?_
  | with_reducible refine x_binP ?_
  | with_reducible refine x_bin ?_
  | with_reducible refine x_adC ?_
  | with_reducible refine x_adN ?_
  | with_reducible refine x_lst ?_
  | with_reducible refine x_tup ?_
  | with_reducible refine x_lstO ?_
  | (with_reducible refine x_and (p := _ ≤ sizeLine) ?h ?_); (case h => walk_at "sz")
  | with_reducible refine x_callF ?_
  | with_reducible refine x_callL ?_
  | with_reducible refine x_listO ?_
  | (with_reducible show wCallU _ _ _ _ _); refine x_callU rfl ?_
  | with_reducible refine x_callV ?_
  | with_reducible refine x_join ?_
  | with_reducible refine x_waD ?_
  | with_reducible refine x_lc ?_
  | with_reducible refine x_lc2 ?_
  | with_reducible refine x_lenSets ?_
  | (with_reducible show wApp _ _ _ _); refine x_app rfl ?_
  | (with_reducible show wBinV _ _ _ _ _); refine x_binV rfl ?_
  | (with_reducible show wPopD _ _ _ _); refine x_popD rfl ?_
  | (with_reducible show wCatV _ _ _ _); refine x_catV rfl ?_
  | with_reducible refine x_slN2 ?_
  | with_reducible refine x_sortedSets ?_
  | with_reducible refine x_tplL ?_
  | with_reducible refine x_tplT ?_
  | with_reducible refine x_isB ?_
  | with_reducible refine x_r1 ?_
  | with_reducible refine x_r2 ?_
  | (with_reducible refine x_r1e ?h0 ?h1 ?_); (case h0 => omega); (case h1 => omega)
  | with_reducible refine x_iL ?_
  | with_reducible refine x_iT ?_
  | with_reducible refine x_iS ?_
  | with_reducible refine x_iE ?_
  | with_reducible refine x_iEe ?_
  | with_reducible refine x_yes ?_
  | with_reducible refine x_for ?_
  | (with_reducible show wLot _ [D.int _] _); (refine' x_lot (by assumption) ?h1 ?h2 ?h3 ?_); (case h1 => omega); (case h2 => first | decide | omega); (case h3 => first | decide | omega)
  | (with_reducible show ∃ o, _ = some (some (Sl.own o)) ∧ _); refine x_exO rfl ?_
  | with_reducible refine x_exo ?_
  | with_reducible refine x_ret ?_
  | with_reducible refine x_set ?_
  | with_reducible refine x_fin ?_
  | with_reducible refine x_fino ?_
  | (with_reducible refine x_and (p := _ < List.length _) ?h ?_); (case h => exact Nat.le_of_ble_eq_true rfl); (try dsimp only [List.set_cons_succ, List.set_cons_zero])
  | with_reducible refine x_next ?_
  | with_reducible refine x_retN ?_
  | with_reducible refine x_drop ?_
  | with_reducible refine x_asg ?_
  | (with_reducible refine x_gtp ?h ?_); (case h => rfl)
  | with_reducible refine x_gcons ?_
  | with_reducible refine x_gnil ?_
  | (with_reducible refine x_gn ?h ?_); (case h => exact Nat.le_of_ble_eq_true rfl); (try dsimp only [List.set_cons_succ, List.set_cons_zero])
  | with_reducible refine x_ifS ?_
  | with_reducible refine x_if ?_
  | with_reducible refine x_itT ?_
  | with_reducible refine x_itF ?_
  | with_reducible refine x_iteN ?_
  | with_reducible refine x_tru ?_
  | with_reducible refine x_tB ?_
  | with_reducible refine x_dtB ?_
  | with_reducible refine x_dtN ?_
  | with_reducible refine x_exb ?_
  | with_reducible refine x_exdb ?_
  | with_reducible refine x_tand ?_
  | with_reducible refine x_tor ?_
  | with_reducible refine x_tnot ?_
  | with_reducible refine x_and2 ?_
  | with_reducible refine x_or2 ?_
  | with_reducible refine x_not2 ?_
  | with_reducible refine x_chain ?_
  | with_reducible refine x_sub ?_
  | with_reducible refine x_addI ?_
  | (with_reducible refine x_addS ?h ?_); (case h => walk_at "sz")
  | (with_reducible refine x_addL ?h ?_); (case h => walk_at "sz")
  | (with_reducible refine x_addT ?h ?_); (case h => walk_at "sz")
  | with_reducible refine x_lt ?_
  | with_reducible refine x_le ?_
  | with_reducible refine x_gt ?_
  | with_reducible refine x_ge ?_
  | with_reducible refine x_ltS ?_
  | with_reducible refine x_eqI ?_
  | with_reducible refine x_neI ?_
  | with_reducible refine x_allSg ?_
  | with_reducible refine x_m0 ?_
  | with_reducible refine x_lstT ?_
  | with_reducible refine x_lstL ?_
  | with_reducible refine x_strB ?_
  | with_reducible refine x_strN ?_
  | with_reducible refine x_strS ?_
  | with_reducible refine x_isT ?_
  | with_reducible refine x_isI ?_
  | with_reducible refine x_neg ?_
  | with_reducible refine x_un ?_
  | (with_reducible refine x_pow ?h ?_); (case h => exact ⟨by decide, by decide +kernel⟩)
  | (with_reducible refine x_mod ?h ?_); (case h => first | decide | omega)
  | (with_reducible refine x_mul ?h ?_); (case h => exact mul_ok (by first | decide | omega) (by first | decide | omega))
  | (with_reducible refine x_div ?h ?_); (case h => exact div_ok (by first | decide | omega) (by first | decide | omega))
  | with_reducible refine x_ipA ?_
  | (with_reducible show wAugL _ _ _ _ _ _); refine x_augL rfl ?_
  | (with_reducible show wAug _ _ _ _ _); refine x_aug rfl ?_
  | (with_reducible show ∃ k' ds d, Sl.f (D.int _) = Sl.f (D.int k') ∧ _); refine x_augL1 rfl (by decide) rfl ?_
  | (with_reducible show ∃ k' j ds, Sl.f (D.int _) = Sl.f (D.int k') ∧ _ = some (some (Sl.own (O.lst ds))) ∧ ixN _ k' = some j ∧ _); refine x_setL1 rfl rfl ?_; (try dsimp only [List.set_cons_succ, List.set_cons_zero])
  | (with_reducible show ∃ ds j, _ = some (some (Sl.own (O.lst ds))) ∧ ixN _ _ = some j ∧ _); refine x_augL2 rfl rfl ?_; (try dsimp only [List.set_cons_succ, List.set_cons_zero])
  | (with_reducible show gSetL _ _ _ _ _); refine x_setL rfl ?_
  | (with_reducible show dIx (D.lst _) (D.int _) _); refine x_ixL rfl ?_
  | (with_reducible show dIx (D.tup _) (D.int _) _); refine x_ixT rfl ?_
  | with_reducible refine x_cb ?_
  | (with_reducible show wCB1 _ _ _ _); refine x_cb1 rfl rfl ?_
  | with_reducible refine x_fm ?_
  | with_reducible refine x_exl ?_
  | with_reducible refine x_ext ?_
  | with_reducible refine x_exs ?_
  | with_reducible refine x_exi ?_
  | with_reducible refine x_sl ?_
  | with_reducible refine x_slN ?_
  | with_reducible refine x_slS ?_
  | with_reducible refine x_frz ?_
  | with_reducible refine x_frL ?_
  | with_reducible refine x_revT ?_
  | with_reducible refine x_revL ?_
  | with_reducible refine x_splitO ?_
  | (with_reducible show wSlO _ _ _ _ _); refine x_slO rfl ?_
  | (with_reducible show ∃ ds2, _ = some (some (Sl.own (O.lst ds2))) ∧ _); refine x_exOl rfl ?_
  | with_reducible refine x_dictO ?_
  | with_reducible refine x_psC ?_
  | with_reducible refine x_psN ?_
  | with_reducible refine x_get ?_
  | (with_reducible show gSetSl _ _ _ _ _ _); refine x_setSl rfl ?_
  | with_reducible refine x_split ?_
  | with_reducible refine x_isN1 ?_
  | with_reducible refine x_isN0 rfl ?_
  | with_reducible refine x_iZ ?_
  | with_reducible refine x_zT ?_
  | with_reducible refine x_zL ?_
  | with_reducible refine x_stp ?_
  | with_reducible refine x_js ?_
  | with_reducible refine x_jsC ?_
  | with_reducible refine x_jsN ?_
  | with_reducible refine x_fmt ?_
  | with_reducible refine x_callFX ?_
  | (with_reducible refine x_glp ?h ?_); (case h => rfl)
  | with_reducible refine x_raiseR ?_
  | with_reducible refine x_row ?_
  | with_reducible refine x_lenL ?_
  | with_reducible refine x_lenT ?_
  | with_reducible refine x_lenD ?_
  | (with_reducible refine x_lenS ?h ?_); (case h => walk_at "sz")
  | with_reducible refine x_max ?_
  | with_reducible refine x_min ?_
  | with_reducible refine x_intI ?_
  | with_reducible refine x_intB ?_
  | (with_reducible refine x_isInt ?h ?_); (case h => first | assumption | exact part_ty (by assumption) | (intro _ hh; cases hh; done))
  | (with_reducible refine x_isBl ?h ?_); (case h => first | assumption | exact part_ty (by assumption) | (intro _ hh; cases hh; done))
  | (with_reducible refine x_isStr ?h ?_); (case h => first | assumption | exact part_ty (by assumption) | (intro _ hh; cases hh; done))
  | (with_reducible refine x_isTup ?h ?_); (case h => first | assumption | exact part_ty (by assumption) | (intro _ hh; cases hh; done))
  | (with_reducible refine x_isLst ?h ?_); (case h => first | assumption | exact part_ty (by assumption) | (intro _ hh; cases hh; done))
  | (with_reducible refine x_isDic ?h ?_); (case h => first | assumption | exact part_ty (by assumption) | (intro _ hh; cases hh; done))
  | (with_reducible refine x_itTe ?e ?_); (case e => rfl)
  | (with_reducible refine x_itFe ?e ?_); (case e => rfl)
  | with_reducible refine x_dnewO ?_
  | with_reducible refine x_dput ?_
  | with_reducible refine x_dix ?_
  | with_reducible refine x_sortedD ?_
  | with_reducible refine x_star ?_
  | with_reducible refine x_starT ?_
  | with_reducible refine x_frzD ?_
  | with_reducible refine x_sw ?_
  | with_reducible refine x_cnt ?_
  | with_reducible refine x_waC ?_
  | with_reducible refine x_waN ?_
  | with_reducible refine x_lenDD ?_
  | with_reducible refine x_allX ?_
  | (with_reducible show wFz _ _ _ _); refine x_fz rfl ?_
  | (with_reducible show wFzS _ _ _ _); refine x_fzS rfl ?_
  | (with_reducible show wFzO _ _ _ _); refine x_fzO rfl ?_
  | (with_reducible show wiK _ _ _); refine x_iK rfl ?_
  | (with_reducible show wiIt _ _ _); refine x_iIt rfl ?_
  | with_reducible refine x_iE1 ?_
  | with_reducible refine x_forR ?_
  | (with_reducible show wDIxV _ _ _ _); refine x_dixV rfl (cd_dicO _) ?_
  | (with_reducible show wDPop _ _ _ _); refine x_dpop rfl ?_
  | with_reducible refine x_pickO ?_
  | (with_reducible show wExt _ _ _ _); refine x_extO rfl ?_
  | with_reducible refine x_sortedR ?_
  | with_reducible refine x_sortedL ?_
  | with_reducible refine x_ixSt ?_
  | (with_reducible show wiVal _ _ _); refine x_iVal rfl ?_
  | with_reducible refine x_dictP ?_
  | with_reducible refine x_dictZip ?_
  | with_reducible refine x_revS ?_
  | with_reducible refine x_par ?_
  | (with_reducible show wIsiV _ _ _ _ _); refine x_isiV rfl ?_
  | ((with_reducible show _ ∧ _); refine And.intro (Nat.le_of_ble_eq_true rfl) ?_))
local macro_rules | `(tactic| walk_at "x") => `(tactic| repeat (walk_at "x1"))

section
variable {P : Program} {w : World} {K : PySem.W.Frag} {mg : Str → Option Value} {base : Heap} {tabs : List Addr}
/-! ### rows of a case -/
theorem keyL2 (cs : Case) : ((cP cs).map fun x => x.fst).map keyD = (cs.map (·.1)).map D.str := by
  rw [keyL_case, List.map_map]
  rfl
def wPassed : WFn := fun ds Q => ∃ (oo : Str) (cs : Case) (a : Str), ds = [cD cs, .str a] ∧ CsOk oo cs ∧ Acy cs ∧ PyData.strOk a = true ∧ Q (.f (.int (passed cs a : Nat)))
theorem mono__law_passed : MonoF wPassed := fun ds Q Q' i ⟨oo, cs, a, h1, h2, h3, h4, q⟩ => ⟨oo, cs, a, h1, h2, h3, h4, i _ q⟩
theorem ok_passed (T : Txt K mg) (c__law_up : Cal P w K mg base 1 "_law_up" (spW K tabs (liftF wUp))) (A : At K mg "_law_passed" s__law_passed ["case", "actor"]) : Cal P w K mg base 2 "_law_passed" (spW K tabs (liftF wPassed)) := by
  refine A.of fun f fd F => fx_fnF F sc__law_passed (fun ds Q ⟨_, _, _, h, _⟩ => by rw [h]; rfl) fun cdv A outer s H E TT P0 σ0 hcd hr => ⟨_, (gss_cons (gs_setE (i := 2) sc__law_passed.nd rfl (Or.inl rfl) (GE.of_pure gp_int))
      (gss_cons (gs_forK (i := 0) (pv 0) (fun Tz Hz Pz σz => (gg_name (pg_name (i := 3) sc__law_passed.nd rfl (Or.inl rfl)) rfl)) (fun Tz Hz Pz σz =>
      (gss_cons (gs_setE (i := 4) sc__law_passed.nd rfl (Or.inl rfl) (ge_callF c__law_up hr (by decide) rfl rfl rfl mono__law_up (gd_cons (GE.of_pure (gp_var (pv 0))) (gd_cons (GE.of_pure (gp_var (pv 3))) gd_nil))))
      (gss_one (gs_if (gt_cmpP (opx_in hr.u65) (gp_var (pv 1)) (gp_var (pv 4)) (by rfl))
      (gss_one (gs_setE (i := 2) sc__law_passed.nd rfl (Or.inl rfl) (ge_cbB (cax_max2 rfl) (by rfl) T.z_max (by decide +kernel) (gd_cons (GE.of_pure (gp_var (pv 2))) (gd_cons (ge_index hr.u65 (GE.of_pure (gp_var (pv 4))) (gd_cons (GE.of_pure (gp_var (pv 1))) gd_nil)) gd_nil)))))
      gss_nil)))) PassesOwn.never rfl)
      (gss_one (gs_ret (GE.of_pure (gp_var (pv 2))))))), fun ds Q ⟨oo, cs, a, e, ok, ac, ha, q⟩ => ?_⟩
  subst e
  refine x_start (e := [some (.f (cD cs)), some (.f (.str a)), none, none, none]) rfl ?_
  walk_at "x"
  rw [keyL2]
  refine ⟨fun i e => ∃ x3 x4, e = [some (.f (cD cs)), some (.f (.str a)), some (.f (.int (passF cs a ((cs.map (·.1)).take i) : Nat))), x3, x4], ⟨_, _, rfl⟩, ?_, ?_⟩
  · rintro i d e hd ⟨x3, x4, rfl⟩
    obtain ⟨y, hy, rfl⟩ := at_map hd
    obtain ⟨p, hp, rfl⟩ := List.mem_map.mp (List.mem_of_getElem? hy)
    have hW := ac p.1 p.2 (look_of ok.nd hp)
    have step : passF cs a ((cs.map (·.1)).take (i + 1)) = pStep cs a (passF cs a ((cs.map (·.1)).take i)) p.1 := by
      unfold passF
      rw [take_snoc hy, List.foldl_append]
      rfl
    generalize passF cs a ((cs.map (·.1)).take i) = n1 at step
    walk_at "x"
    refine ⟨oo, cs, p.1, rfl, ok, name_cp (ok.a p hp), fun h => absurd hW h, fun l h1 h2 => ?_⟩
    have el := wayOf_eq h1 h2
    have wl := way_len hW
    have ws := way_strs ok hW
    have hcl := ok.len
    unfold pStep at step
    rw [el] at step wl ws
    walk_at "x"
    refine x_inL (okPy_str ha) (okPy_strs ws) ?_
    rw [mem_strs]
    cases hc : l.contains a with
    | false =>
      rw [hc, if_neg Bool.false_ne_true] at step
      walk_at "x"
      exact ⟨_, _, by rw [step]⟩
    | true =>
      rw [hc, if_pos rfl] at step
      walk_at "x"
      have hin : a ∈ l := by simpa using hc
      refine ⟨.str a, idx a l, .str a, rfl, okPy_str ha, okPy_strs ws, by rw [List.getElem?_map, at_idx hin]; rfl, (eq_strs (x := a) (y := a)).trans (beq_self_eq_true a), fun m z hm hz => ?_, ?_⟩
      · obtain ⟨y, hy2, rfl⟩ := at_map hz
        refine (eq_strs (x := y) (y := a)).trans (beq_false_of_ne fun e => ?_)
        rw [e] at hy2
        have := idx_at h2 hy2
        omega
      walk_at "x"
      have e : ((if idx a l > n1 then idx a l else n1 : Nat) : Int) = if (idx a l : Int) > (n1 : Int) then (idx a l : Int) else (n1 : Int) := by
        split <;> split <;> omega
      exact ⟨_, _, by rw [step, e]⟩
  rintro e ⟨x3, x4, rfl⟩
  rw [List.length_map, List.take_length]
  walk_at "x"
  exact q
theorem in_deeds {d e : D} {Q : D → Prop} (h : d = .tup (deedsL d)) (h1 : okPy e = true) (h2 : okPy (.tup (deedsL d)) = true) (q : Q (.bl (memB (deedsL d) e))) : dIn false e d Q := by
  generalize deedsL d = l at h h2 q
  subst h
  exact x_inT h1 h2 q
def dsF (b : List Wi) (d : D) : Bool := b.any fun x => memB (deedsL x.p) d
def wRows : WFn := fun ds Q => ∃ (oo : Str) (ts : List Ti) (xs : List Wi) (cs : Case), ds = [trustD oo ts xs, cD cs] ∧ TrOk oo ts xs ∧ CaseOk oo ts xs cs ∧ ∀ (rs : List Rw) (ys : List Str), rs.map (·.h) = ys → ys.Perm (cs.map (·.1)) → sortedS ys = true → (∀ r ∈ rs, RowOf xs cs r) → Q (.f (.tup (rs.map Rw.d)))
theorem mono__law_rows : MonoF wRows := fun ds Q Q' i ⟨oo, ts, xs, cs, h1, h2, h3, q⟩ => ⟨oo, ts, xs, cs, h1, h2, h3, fun rs ys a b c d => i _ (q rs ys a b c d)⟩
theorem ok_rows (T : Txt K mg) (c__law_below : Cal P w K mg base 2 "_law_below" (spW K tabs (liftF wBelow))) (c__law_passed : Cal P w K mg base 2 "_law_passed" (spW K tabs (liftF wPassed))) (A : At K mg "_law_rows" s__law_rows ["trust", "case"]) : Cal P w K mg base 3 "_law_rows" (spW K tabs (liftF wRows)) := by
  refine A.of fun f fd F => fx_fnF F sc__law_rows (fun ds Q ⟨_, _, _, _, h, _⟩ => by rw [h]; rfl) fun cdv A outer s H E TT P0 σ0 hcd hr => ⟨_, (gss_cons (gs_setE (i := 2) sc__law_rows.nd rfl (Or.inl rfl) (ge_lstOD gd_nil))
      (gss_cons (gs_for PassesOwn.never rfl (gi_list (ge_frz (ge_sortedD rfl rfl T.z_sorted (GE.of_pure (gp_var (pv 1)))))) (gg_name (pg_name (i := 3) sc__law_rows.nd rfl (Or.inl rfl)) rfl)
      (gss_cons (gs_setE (i := 4) sc__law_rows.nd rfl (Or.inr rfl) (ge_callF c__law_below hr (by decide) rfl rfl rfl mono__law_below (gd_cons (GE.of_pure (gp_var (pv 0))) (gd_cons (GE.of_pure (gp_var (pv 1))) (gd_cons (GE.of_pure (gp_var (pv 3))) gd_nil)))))
      (gss_cons (gs_setE (i := 5) sc__law_rows.nd rfl (Or.inl rfl) (ge_cbT cax_tuple (by rfl) T.z_tuple (by decide +kernel) (gd_cons (ge_frz (ge_lcR1 (own := [("deed", 6)]) (t := .name 6) rfl sc__law_rows.nd (gi_list (ge_lstD (gd_cons (GE.of_pure gp_str) (gd_cons (GE.of_pure gp_str) gd_nil)))) (blkOk_by (own := [("deed", 6)]) (N := ["trust", "case", "found", "actor", "some", "deeds", "deed", "wish", "first", "last"]) (sc := defScope s__law_rows) (by decide +kernel)) (fun _ _ _ _ _ => (pg_name (i := 6) sc__law_rows.nd rfl (Or.inr rfl))) (fun _ _ _ _ _ => (gt_cmp (opx_ne hr.units) (ge_frz (ge_lcR1 (own := [("wish", 7)]) (t := .name 7) rfl sc__law_rows.nd (gi_list (GE.of_pure (gp_var (pv 4)))) (blkOk_by (own := [("wish", 7)]) (N := ["trust", "case", "found", "actor", "some", "deeds", "deed", "wish", "first", "last"]) (sc := relS _ (defScope s__law_rows)) (by decide +kernel)) (fun _ _ _ _ _ => (pg_name (i := 7) sc__law_rows.nd rfl (Or.inl rfl))) (fun _ _ _ _ _ => (gt_cmpP (opx_in hr.u65) (gp_var (pv 6)) (gp_ix ixx (gp_var (pv 7)) gp_int (fun _ _ => rfl)) (by rfl))) (fun _ _ _ _ _ => (GE.of_pure (gp_var (pv 7)))) (by decide) (mem1 rfl) (mem1 (Nat.le_of_ble_eq_true rfl)))) (ge_lstD gd_nil) (nomark _))) (fun _ _ _ _ _ => (GE.of_pure (gp_var (pv 6)))) (by decide) (mem1 rfl) (mem1 (Nat.le_of_ble_eq_true rfl)))) gd_nil)))
      (gss_cons (gs_setE (i := 8) sc__law_rows.nd rfl (Or.inl rfl) (ge_cbB (cax_minL rfl) (by rfl) T.z_min (by decide +kernel) (gd_cons (ge_frz (ge_lcR (own := [("wish", 7)]) (t := .name 7) rfl sc__law_rows.nd (gi_list (GE.of_pure (gp_var (pv 4)))) (blkOk_by (own := [("wish", 7)]) (N := ["trust", "case", "found", "actor", "some", "deeds", "deed", "wish", "first", "last"]) (sc := defScope s__law_rows) (by decide +kernel)) (fun _ _ _ _ _ => (pg_name (i := 7) sc__law_rows.nd rfl (Or.inl rfl))) (fun _ _ _ _ _ => (GE.of_pure (gp_ix ixx (gp_var (pv 7)) gp_int (fun _ _ => rfl)))) (by decide) (mem1 rfl) (mem1 (Nat.le_of_ble_eq_true rfl)))) gd_nil)))
      (gss_cons (gs_setE (i := 9) sc__law_rows.nd rfl (Or.inl rfl) (ge_cbB (cax_maxL rfl) (by rfl) T.z_max (by decide +kernel) (gd_cons (ge_frz (ge_lcR (own := [("wish", 7)]) (t := .name 7) rfl sc__law_rows.nd (gi_list (GE.of_pure (gp_var (pv 4)))) (blkOk_by (own := [("wish", 7)]) (N := ["trust", "case", "found", "actor", "some", "deeds", "deed", "wish", "first", "last"]) (sc := defScope s__law_rows) (by decide +kernel)) (fun _ _ _ _ _ => (pg_name (i := 7) sc__law_rows.nd rfl (Or.inl rfl))) (fun _ _ _ _ _ => (GE.of_pure (gp_ix ixx (gp_var (pv 7)) gp_int (fun _ _ => rfl)))) (by decide) (mem1 rfl) (mem1 (Nat.le_of_ble_eq_true rfl)))) gd_nil)))
      (gss_one (gs_append (pv 2) (gd_cons (ge_tupD (gd_cons (ge_dix (u1 hr) (GE.of_pure (gp_var (pv 1))) (GE.of_pure (gp_var (pv 3))) (fun _ _ => rfl)) (gd_cons (GE.of_pure (gp_var (pv 3))) (gd_cons (GE.of_pure (gp_var (pv 5))) (gd_cons (GE.of_pure (gp_var (pv 8))) (gd_cons (GE.of_pure (gp_var (pv 9))) (gd_cons (ge_callF c__law_passed hr (by decide) rfl rfl rfl mono__law_passed (gd_cons (GE.of_pure (gp_var (pv 1))) (gd_cons (GE.of_pure (gp_var (pv 3))) gd_nil))) gd_nil))))))) gd_nil))))))))
      (gss_one (gs_ret (ge_cbT1 cax_tuple (by rfl) T.z_tuple (by decide +kernel) (pv 2)))))), fun ds Q ⟨oo, ts, xs, cs, e, tr, ⟨ok, cl, ft, fb⟩, q⟩ => ?_⟩
  subst e
  have hx6 := tr.x6
  have hcl := ok.len
  refine x_start (e := [some (.f (.tup [.str oo, .tup (ts.map Ti.d), .tup (xs.map Wi.d)])), some (.f (cD cs)), none, none, none, none, none, none, none, none]) rfl ?_
  walk_at "x"
  refine ⟨cP cs, cs.map (·.1), rfl, keys_case cs, by rw [List.length_map]; omega, fun ys pm so => ?_⟩
  walk_at "x"
  refine ⟨fun i e => ∃ (rs : List Rw) (x3 x4 x5 x6 x7 x8 x9 : Option Sl), rs.map (·.h) = ys.take i ∧ (∀ r ∈ rs, RowOf xs cs r) ∧ e = [some (.f (.tup [.str oo, .tup (ts.map Ti.d), .tup (xs.map Wi.d)])), some (.f (cD cs)), some (.own (.lst (rs.map Rw.d))), x3, x4, x5, x6, x7, x8, x9], ⟨[], _, _, _, _, _, _, _, rfl, nofun, rfl⟩, ?_, ?_⟩
  · rintro i d e hd ⟨rs, x3, x4, x5, x6, x7, x8, x9, hrs, hro, rfl⟩
    obtain ⟨a, hy, rfl⟩ := at_map hd
    obtain ⟨p, hp, ea⟩ := List.mem_map.mp (pm.mem_iff.mp (List.mem_of_getElem? hy))
    have lk : look cs a = some p.2 := by rw [← ea]; exact look_of ok.nd hp
    have an : PyData.strOk a = true := by rw [← ea]; exact name_cp (ok.a p hp)
    walk_at "x"
    refine ⟨oo, ts, xs, cs, a, rfl, tr, ok, ft.1, an, ?_⟩
    have bo : ∀ x ∈ below xs cs a, x.Ok := fun x hx => tr.hxs x (List.mem_filter.mp hx).1
    have bl : (below xs cs a).length ≤ 6 := Nat.le_trans (List.length_filter_le ..) hx6
    have bne : below xs cs a ≠ [] := fb _ _ lk
    generalize hb : below xs cs a = b at bo bl bne
    walk_at "x"
    refine ⟨fun i acc e => acc = (([lookS, setS].take i).filter (dsF b)) ∧ ∃ x6 x7, e = [some (.f (.tup [.str oo, .tup (ts.map Ti.d), .tup (xs.map Wi.d)])), some (.f (cD cs)), some (.own (.lst (rs.map Rw.d))), some (.f (.str a)), some (.f (.lst (b.map Wi.d))), x5, x6, x7, x8, x9], ⟨rfl, _, _, rfl⟩, ?_, ?_⟩
    · rintro i d acc e hd ⟨rfl, x6, x7, rfl⟩
      have hd : [lookS, setS][i]? = some d := hd
      have ds : ∃ s, d = .str s ∧ PyData.strOk s = true := by
        rcases List.mem_cons.mp (List.mem_of_getElem? hd) with e | h
        · exact ⟨"look", e, by decide +kernel⟩
        · exact ⟨"set", List.mem_singleton.mp h, by decide +kernel⟩
      obtain ⟨s, es, so2⟩ := ds
      have yes : dsF b d = true → ([lookS, setS].take i).filter (dsF b) ++ [d] = ([lookS, setS].take (i + 1)).filter (dsF b) := fun h => by
        rw [take_snoc hd, List.filter_append, List.filter_cons_of_pos h, List.filter_nil]
      have no : dsF b d = false → ([lookS, setS].take i).filter (dsF b) = ([lookS, setS].take (i + 1)).filter (dsF b) := fun h => by
        rw [take_snoc hd, List.filter_append, List.filter_cons_of_neg (by rw [h]; decide), List.filter_nil, List.append_nil]
      have df : dsF b d = b.any (fun x => memB (deedsL x.p) d) := rfl
      refine ⟨_, rfl, ?_⟩
      dsimp only [List.map_cons, List.map_nil, wipeE, setE, Tgt.js, List.set_cons_zero, List.set_cons_succ]
      walk_at "x"
      refine ⟨by rw [List.length_map]; omega, fun i acc e => acc = ((b.take i).filter (fun x => memB (deedsL x.p) d)).map Wi.d ∧ ∃ x7, e = [some (.f (.tup [.str oo, .tup (ts.map Ti.d), .tup (xs.map Wi.d)])), some (.f (cD cs)), some (.own (.lst (rs.map Rw.d))), some (.f (.str a)), some (.f (.lst (b.map Wi.d))), x5, some (.f d), x7, x8, x9], ⟨rfl, _, rfl⟩, ?_, ?_⟩
      · rintro i d2 acc e hd2 ⟨rfl, x7, rfl⟩
        rw [List.getElem?_map] at hd2
        obtain ⟨x, hx, rfl⟩ := Option.map_eq_some_iff.mp hd2
        have xo := bo x (List.mem_of_getElem? hx)
        have d4 := deeds4_tup (deeds_four xo.p)
        have yes : memB (deedsL x.p) d = true → ((b.take i).filter (fun x => memB (deedsL x.p) d)).map Wi.d ++ [x.d] = ((b.take (i + 1)).filter (fun x => memB (deedsL x.p) d)).map Wi.d := fun h => by
          rw [take_snoc hx, List.filter_append, List.filter_cons_of_pos (p := fun x : Wi => memB (deedsL x.p) d) h, List.filter_nil, List.map_append]
          rfl
        have no : memB (deedsL x.p) d = false → ((b.take i).filter (fun x => memB (deedsL x.p) d)).map Wi.d = ((b.take (i + 1)).filter (fun x => memB (deedsL x.p) d)).map Wi.d := fun h => by
          rw [take_snoc hx, List.filter_append, List.filter_cons_of_neg (p := fun x : Wi => memB (deedsL x.p) d) (by rw [h]; decide), List.filter_nil, List.append_nil]
        rw [show x.d = .tup [.str x.a, x.p, .int x.s, .int x.u] from rfl] at yes
        rw [show x.d = .tup [.str x.a, x.p, .int x.s, .int x.u] from rfl]
        refine ⟨_, rfl, ?_⟩
        dsimp only [List.map_cons, List.map_nil, wipeE, setE, Tgt.js, List.set_cons_zero, List.set_cons_succ]
        walk_at "x"
        refine in_deeds d4.1 (by rw [es]; exact okPy_str so2) d4.2.2.1 ?_
        cases hm : memB (deedsL x.p) d with
        | true =>
          walk_at "x"
          exact ⟨yes hm, _, rfl⟩
        | false =>
          walk_at "x"
          exact ⟨no hm, _, rfl⟩
      rintro acc e ⟨rfl, x7, rfl⟩
      rw [List.length_map, List.take_length]
      try dsimp only [List.map_cons, List.map_nil, wipeE, List.set_cons_zero, List.set_cons_succ]
      walk_at "x"
      refine x_neD (okPy_wishes fun x hx => bo x (List.mem_filter.mp hx).1) (by decide +kernel) ?_
      rw [ne_nilD, any_ne, ← df]
      cases hm : dsF b d with
      | true =>
        walk_at "x"
        exact ⟨yes hm, _, _, rfl⟩
      | false =>
        walk_at "x"
        exact ⟨no hm, _, _, rfl⟩
    rintro acc e ⟨rfl, x6, x7, rfl⟩
    rw [show ([D.str "look", D.str "set"] : List D) = [lookS, setS] from rfl, List.take_length, show [lookS, setS].filter (dsF b) = dsOf b from rfl]
    try dsimp only [List.map_cons, List.map_nil, wipeE, List.set_cons_zero, List.set_cons_succ]
    walk_at "x"
    refine ⟨by rw [List.length_map]; omega, fun i acc e => acc = ((b.take i).map (·.s)).map D.int ∧ ∃ x7, e = [some (.f (.tup [.str oo, .tup (ts.map Ti.d), .tup (xs.map Wi.d)])), some (.f (cD cs)), some (.own (.lst (rs.map Rw.d))), some (.f (.str a)), some (.f (.lst (b.map Wi.d))), some (.f (.tup (dsOf b))), none, x7, x8, x9], ⟨rfl, _, rfl⟩, ?_, ?_⟩
    · rintro i d acc e hd ⟨rfl, x7, rfl⟩
      rw [List.getElem?_map] at hd
      obtain ⟨x, hx, rfl⟩ := Option.map_eq_some_iff.mp hd
      refine ⟨_, rfl, ?_⟩
      dsimp only [List.map_cons, List.map_nil, wipeE, setE, Tgt.js, List.set_cons_zero, List.set_cons_succ]
      unfold Wi.d
      walk_at "x"
      exact ⟨by rw [take_snoc hx, List.map_append, List.map_append]; rfl, _, rfl⟩
    rintro acc e ⟨rfl, x7, rfl⟩
    rw [List.length_map, List.take_length]
    try dsimp only [List.map_cons, List.map_nil, wipeE, List.set_cons_zero, List.set_cons_succ]
    walk_at "x"
    refine ⟨b.map (·.s), rfl, by rw [List.length_map]; exact List.length_pos_iff.mpr bne, fun s s1 s2 => ?_⟩
    have hs : IsMin s b := ⟨s1, fun x hx => s2 _ (List.mem_map.mpr ⟨x, hx, rfl⟩)⟩
    walk_at "x"
    refine ⟨by rw [List.length_map]; omega, fun i acc e => acc = ((b.take i).map (·.u)).map D.int ∧ ∃ x7, e = [some (.f (.tup [.str oo, .tup (ts.map Ti.d), .tup (xs.map Wi.d)])), some (.f (cD cs)), some (.own (.lst (rs.map Rw.d))), some (.f (.str a)), some (.f (.lst (b.map Wi.d))), some (.f (.tup (dsOf b))), none, x7, some (.f (.int s)), x9], ⟨rfl, _, rfl⟩, ?_, ?_⟩
    · rintro i d acc e hd ⟨rfl, x7, rfl⟩
      rw [List.getElem?_map] at hd
      obtain ⟨x, hx, rfl⟩ := Option.map_eq_some_iff.mp hd
      refine ⟨_, rfl, ?_⟩
      dsimp only [List.map_cons, List.map_nil, wipeE, setE, Tgt.js, List.set_cons_zero, List.set_cons_succ]
      unfold Wi.d
      walk_at "x"
      exact ⟨by rw [take_snoc hx, List.map_append, List.map_append]; rfl, _, rfl⟩
    rintro acc e ⟨rfl, x7, rfl⟩
    rw [List.length_map, List.take_length]
    try dsimp only [List.map_cons, List.map_nil, wipeE, List.set_cons_zero, List.set_cons_succ]
    walk_at "x"
    refine ⟨b.map (·.u), rfl, by rw [List.length_map]; exact List.length_pos_iff.mpr bne, fun u u1 u2 => ?_⟩
    have hu : IsMax u b := ⟨u1, fun x hx => u2 _ (List.mem_map.mpr ⟨x, hx, rfl⟩)⟩
    walk_at "x"
    refine ⟨cP cs, rfl, ?_⟩
    walk_at "x"
    refine ⟨.inr a, .str p.2, rfl, by rw [getP_case, lk]; rfl, ?_⟩
    walk_at "x"
    refine ⟨oo, cs, a, rfl, ok, ft.1, an, ?_⟩
    walk_at "x"
    have rl : rs.length ≤ 5 := by
      have h1 : (rs.map (·.h)).length ≤ ys.length := by rw [hrs]; exact List.length_take_le' ..
      have h2 := pm.length_eq
      rw [List.length_map] at h1 h2
      omega
    refine ⟨_, _, rfl, rfl, by rw [List.length_map]; omega, ?_⟩
    walk_at "x"
    refine ⟨rs ++ [⟨p.2, a, .tup (dsOf b), s, u, (passed cs a : Nat)⟩], _, _, _, _, _, _, _, ?_, fun r hr => ?_, by rw [List.map_append]; rfl⟩
    · rw [List.map_append, hrs, take_snoc hy]
      rfl
    · rcases List.mem_append.mp hr with hr | hr
      · exact hro r hr
      · rw [List.mem_singleton.mp hr]
        exact ⟨lk, by rw [hb], by rw [hb]; exact hs, by rw [hb]; exact hu, rfl⟩
  rintro e ⟨rs, x3, x4, x5, x6, x7, x8, x9, hrs, hro, rfl⟩
  rw [List.length_map, List.take_length] at hrs
  walk_at "x"
  exact q rs ys hrs pm so hro
def GoodRows (oo : Str) (ts : List Ti) (xs : List Wi) (rs : List Rw) : Prop := (∀ r ∈ rs, r.W) ∧ rs.length ≤ 5 ∧ (rs = [] ∨ planV oo ts xs rs = true)
def wDrawn : WUn := fun o ds Q => ∃ (n : Nat) (oo : Str) (ts : List Ti) (xs : List Wi) (ns : List Str), ds = [trustD oo ts xs] ∧ TrOk oo ts xs ∧ Among (oo :: ns) ts xs ∧ ns.length ≤ 5 ∧ Un o n ∧ n + 100 ≤ 100000 ∧
  ∀ rs o', Un o' (n + 100) → GoodRows oo ts xs rs → Q (.f (.tup (rs.map Rw.d))) o'
theorem mono__law_drawn_rows : MonoU2 wDrawn := fun o ds Q Q' i ⟨n, oo, ts, xs, ns, h1, h2, h3, h4, h5, h6, q⟩ => ⟨n, oo, ts, xs, ns, h1, h2, h3, h4, h5, h6, fun rs o u h => i _ _ (q rs o u h)⟩
theorem ok_drawn (T : Txt K mg) (c__law_case : Cal P w K mg base 4 "_law_case" (spW K tabs (liftU wCase))) (c__law_rows : Cal P w K mg base 3 "_law_rows" (spW K tabs (liftF wRows))) (A : At K mg "_law_drawn_rows" s__law_drawn_rows ["pool", "trust"]) : Cal P w K mg base 5 "_law_drawn_rows" (spW K tabs (liftU wDrawn)) := by
  refine A.of fun f fd F => fx_fnU F sc__law_drawn_rows (fun o ds Q ⟨_, _, _, _, _, h, _⟩ => by rw [h]; rfl) fun cdv A outer s H E TT P0 σ0 hcd hr => ⟨_, (gss_cons (gs_for PassesOwn.never rfl (gi_r1 rfl T.z_range (GD.ga (gd_cons (GE.of_pure gp_int) gd_nil))) (gg_name (pg_name (i := 2) sc__law_drawn_rows.nd rfl (Or.inl rfl)) rfl)
      (gss_cons (gs_setE (i := 3) sc__law_drawn_rows.nd rfl (Or.inl rfl) (ge_callU c__law_case hr (by decide) rfl rfl rfl mono__law_case (pv 0) (gd_cons (GE.of_pure (gp_var (pv 1))) gd_nil)))
      (gss_one (gs_if (gt_cmpP opx_notN (gp_var (pv 3)) gp_non (nomark _))
      (gss_one (gs_ret (ge_callF c__law_rows hr (by decide) rfl rfl rfl mono__law_rows (gd_cons (GE.of_pure (gp_var (pv 1))) (gd_cons (GE.of_pure (gp_var (pv 3))) gd_nil)))))
      gss_nil))))
      (gss_one (gs_ret (ge_tupD gd_nil)))), fun o ds Q ⟨n, oo, ts, xs, ns, e, tr, am, nl, u, hn, q⟩ => ?_⟩
  subst e
  refine x_start (e := [some (.own o), some (.f (.tup [.str oo, .tup (ts.map Ti.d), .tup (xs.map Wi.d)])), none, none]) rfl ?_
  walk_at "x"
  refine ⟨fun i e => ∃ (o' : O) (x2 x3 : Option Sl), Un o' (n + 10 * i) ∧ e = [some (.own o'), some (.f (.tup [.str oo, .tup (ts.map Ti.d), .tup (xs.map Wi.d)])), x2, x3], ⟨o, _, _, u, rfl⟩, ?_, ?_⟩
  · rintro i d e hd ⟨o', x2, x3, u', rfl⟩
    obtain ⟨hi, rfl⟩ := rng_at hd
    walk_at "x"
    refine ⟨n + 10 * i, oo, ts, xs, ns, rfl, tr, am, nl, u', by omega, fun o2 u2 => ?_, fun cs o2 u2 hc => ?_⟩
    · walk_at "x"
      exact ⟨o2, _, _, u2.mono (by omega), rfl⟩
    · walk_at "x"
      refine ⟨oo, ts, xs, cs, rfl, tr, hc, fun rs ys h1 h2 h3 h4 => ?_⟩
      obtain ⟨ok, cl, ft, fb⟩ := hc
      walk_at "x"
      have hl : rs.length ≤ 5 := by
        have e1 : (rs.map (·.h)).length = (cs.map (·.1)).length := by rw [h1]; exact h2.length_eq
        rw [List.length_map, List.length_map] at e1
        have := ok.len
        omega
      exact q rs o2 (u2.mono (by omega)) ⟨fun r h => row_W tr ok fb (h4 r h), hl, .inr (plan_rows tr ok cl ft fb h1 h2 h3 h4)⟩
  rintro e ⟨o', x2, x3, u', rfl⟩
  walk_at "x"
  exact q [] o' (u'.mono (by simp)) ⟨nofun, by decide, .inl rfl⟩

end
end K75

namespace K75
open PySem PySem.Spec PyProof.Rows L2 Lk Evl Fx



local macro_rules | `(tactic| walk_at "sz") => `(tactic| first
  | exact Nat.le_of_ble_eq_true rfl
  | assumption
  | exact small_sz (Nat.le_of_ble_eq_true rfl)
  | (simp only [List.length_cons, List.length_nil, List.length_map, List.length_append]; first | omega | exact small_sz (by omega)))
local macro_rules | `(tactic| walk_at "x1") => `(tactic| first
  | with_reducible refine x_seq ?_
  | (with_reducible show wVar _ _ _); first | refine x_varF rfl ?_ | refine x_varO rfl ?_ | refine x_varV rfl ?_
  | with_reducible refine x_c ?_
  | with_reducible refine x_exf ?_
  | with_reducible refine x_excd ?_
  | (with_reducible show ∃ d1, Sl.cd (Sl.vw _) = some d1 ∧ _); refine x_excV rfl ?_
  | (with_reducible show ∃ d1, Sl.cd (Sl.own _) = some d1 ∧ _); refine x_excO rfl ?_
  | with_reducible refine x_binP ?_
  | with_reducible refine x_bin ?_
  | with_reducible refine x_adC ?_
  | with_reducible refine x_adN ?_
  | with_reducible refine x_lst ?_
  | with_reducible refine x_tup ?_
  | with_reducible refine x_lstO ?_
  | (with_reducible refine x_and (p := _ ≤ sizeLine) ?h ?_); (case h => walk_at "sz")
  | with_reducible refine x_callF ?_
  | with_reducible refine x_callL ?_
  | with_reducible refine x_listO ?_
  | (with_reducible show wCallU _ _ _ _ _); refine x_callU rfl ?_
  | with_reducible refine x_callV ?_
  | with_reducible refine x_join ?_
  | with_reducible refine x_waD ?_
  | with_reducible refine x_lc ?_
  | with_reducible refine x_lc2 ?_
  | with_reducible refine x_lenSets ?_
  | (with_reducible show wApp _ _ _ _); refine x_app rfl ?_
  | (with_reducible show wBinV _ _ _ _ _); refine x_binV rfl ?_
  | (with_reducible show wPopD _ _ _ _); refine x_popD rfl ?_
  | (with_reducible show wCatV _ _ _ _); refine x_catV rfl ?_
  | with_reducible refine x_slN2 ?_
  | with_reducible refine x_sortedSets ?_
  | with_reducible refine x_tplL ?_
  | with_reducible refine x_tplT ?_
  | with_reducible refine x_isB ?_
  | with_reducible refine x_r1 ?_
  | with_reducible refine x_r2 ?_
  | (with_reducible refine x_r1e ?h0 ?h1 ?_); (case h0 => omega); (case h1 => omega)
  | with_reducible refine x_iL ?_
  | with_reducible refine x_iT ?_
  | with_reducible refine x_iS ?_
  | with_reducible refine x_iE ?_
  | with_reducible refine x_iEe ?_
  | with_reducible refine x_yes ?_
  | with_reducible refine x_for ?_
  | (with_reducible show wLot _ [D.int _] _); (refine' x_lot (by assumption) ?h1 ?h2 ?h3 ?_); (case h1 => omega); (case h2 => first | decide | omega); (case h3 => first | decide | omega)
  | (with_reducible show ∃ o, _ = some (some (Sl.own o)) ∧ _); refine x_exO rfl ?_
  | with_reducible refine x_exo ?_
  | with_reducible refine x_ret ?_
  | with_reducible refine x_set ?_
  | with_reducible refine x_fin ?_
  | with_reducible refine x_fino ?_
  | (with_reducible refine x_and (p := _ < List.length _) ?h ?_); (case h => exact Nat.le_of_ble_eq_true rfl); (try dsimp only [List.set_cons_succ, List.set_cons_zero])
  | with_reducible refine x_next ?_
  | with_reducible refine x_retN ?_
  | with_reducible refine x_drop ?_
  | with_reducible refine x_asg ?_
  | (with_reducible refine x_gtp ?h ?_); (case h => rfl)
  | with_reducible refine x_gcons ?_
  | with_reducible refine x_gnil ?_
  | (with_reducible refine x_gn ?h ?_); (case h => exact Nat.le_of_ble_eq_true rfl); (try dsimp only [List.set_cons_succ, List.set_cons_zero])
  | with_reducible refine x_ifS ?_
  | with_reducible refine x_if ?_
  | with_reducible refine x_itT ?_
  | with_reducible refine x_itF ?_
  | with_reducible refine x_iteN ?_
  | with_reducible refine x_tru ?_
  | with_reducible refine x_tB ?_
  | with_reducible refine x_dtB ?_
  | with_reducible refine x_dtN ?_
  | with_reducible refine x_exb ?_
  | with_reducible refine x_exdb ?_
  | with_reducible refine x_tand ?_
  | with_reducible refine x_tor ?_
  | with_reducible refine x_tnot ?_
  | with_reducible refine x_and2 ?_
  | with_reducible refine x_or2 ?_
  | with_reducible refine x_not2 ?_
  | with_reducible refine x_chain ?_
  | with_reducible refine x_sub ?_
  | with_reducible refine x_addI ?_
  | (with_reducible refine x_addS ?h ?_); (case h => walk_at "sz")
  | (with_reducible refine x_addL ?h ?_); (case h => walk_at "sz")
  | (with_reducible refine x_addT ?h ?_); (case h => walk_at "sz")
  | with_reducible refine x_lt ?_
  | with_reducible refine x_le ?_
  | with_reducible refine x_gt ?_
  | with_reducible refine x_ge ?_
  | with_reducible refine x_ltS ?_
  | with_reducible refine x_eqI ?_
  | with_reducible refine x_neI ?_
  | with_reducible refine x_allSg ?_
  | with_reducible refine x_m0 ?_
  | with_reducible refine x_lstT ?_
  | with_reducible refine x_lstL ?_
  | with_reducible refine x_strB ?_
  | with_reducible refine x_strN ?_
  | with_reducible refine x_strS ?_
  | with_reducible refine x_isT ?_
  | with_reducible refine x_isI ?_
  | with_reducible refine x_neg ?_
  | with_reducible refine x_un ?_
  | (with_reducible refine x_pow ?h ?_); (case h => exact ⟨by decide, by decide +kernel⟩)
  | (with_reducible refine x_mod ?h ?_); (case h => first | decide | omega)
  | (with_reducible refine x_mul ?h ?_); (case h => exact mul_ok (by first | decide | omega) (by first | decide | omega))
  | (with_reducible refine x_div ?h ?_); (case h => exact div_ok (by first | decide | omega) (by first | decide | omega))
  | with_reducible refine x_ipA ?_
  | (with_reducible show wAugL _ _ _ _ _ _); refine x_augL rfl ?_
  | (with_reducible show wAug _ _ _ _ _); refine x_aug rfl ?_
  | (with_reducible show ∃ k' ds d, Sl.f (D.int _) = Sl.f (D.int k') ∧ _); refine x_augL1 rfl (by decide) rfl ?_
  | (with_reducible show ∃ k' j ds, Sl.f (D.int _) = Sl.f (D.int k') ∧ _ = some (some (Sl.own (O.lst ds))) ∧ ixN _ k' = some j ∧ _); refine x_setL1 rfl rfl ?_; (try dsimp only [List.set_cons_succ, List.set_cons_zero])
  | (with_reducible show ∃ ds j, _ = some (some (Sl.own (O.lst ds))) ∧ ixN _ _ = some j ∧ _); refine x_augL2 rfl rfl ?_; (try dsimp only [List.set_cons_succ, List.set_cons_zero])
  | (with_reducible show gSetL _ _ _ _ _); refine x_setL rfl ?_
  | (with_reducible show dIx (D.lst _) (D.int _) _); refine x_ixL rfl ?_
  | (with_reducible show dIx (D.tup _) (D.int _) _); refine x_ixT rfl ?_
  | with_reducible refine x_cb ?_
  | (with_reducible show wCB1 _ _ _ _); refine x_cb1 rfl rfl ?_
  | with_reducible refine x_fm ?_
  | with_reducible refine x_exl ?_
  | with_reducible refine x_ext ?_
  | with_reducible refine x_exs ?_
  | with_reducible refine x_exi ?_
  | with_reducible refine x_sl ?_
  | with_reducible refine x_slN ?_
  | with_reducible refine x_slS ?_
  | with_reducible refine x_frz ?_
  | with_reducible refine x_frL ?_
  | with_reducible refine x_revT ?_
  | with_reducible refine x_revL ?_
  | with_reducible refine x_splitO ?_
  | (with_reducible show wSlO _ _ _ _ _); refine x_slO rfl ?_
  | (with_reducible show ∃ ds2, _ = some (some (Sl.own (O.lst ds2))) ∧ _); refine x_exOl rfl ?_
  | with_reducible refine x_dictO ?_
  | with_reducible refine x_psC ?_
  | with_reducible refine x_psN ?_
  | with_reducible refine x_get ?_
  | (with_reducible show gSetSl _ _ _ _ _ _); refine x_setSl rfl ?_
  | with_reducible refine x_split ?_
  | with_reducible refine x_isN1 ?_
  | with_reducible refine x_isN0 rfl ?_
  | with_reducible refine x_iZ ?_
  | with_reducible refine x_zT ?_
  | with_reducible refine x_zL ?_
  | with_reducible refine x_stp ?_
  | with_reducible refine x_js ?_
  | with_reducible refine x_jsC ?_
  | with_reducible refine x_jsN ?_
  | with_reducible refine x_fmt ?_
  | with_reducible refine x_callFX ?_
  | (with_reducible refine x_glp ?h ?_); (case h => rfl)
  | with_reducible refine x_raiseR ?_
  | with_reducible refine x_row ?_
  | with_reducible refine x_lenL ?_
  | with_reducible refine x_lenT ?_
  | with_reducible refine x_lenD ?_
  | (with_reducible refine x_lenS ?h ?_); (case h => walk_at "sz")
  | with_reducible refine x_max ?_
  | with_reducible refine x_min ?_
  | with_reducible refine x_intI ?_
  | with_reducible refine x_intB ?_
  | (with_reducible refine x_isInt ?h ?_); (case h => first | assumption | exact part_ty (by assumption) | (intro _ hh; cases hh; done))
  | (with_reducible refine x_isBl ?h ?_); (case h => first | assumption | exact part_ty (by assumption) | (intro _ hh; cases hh; done))
  | (with_reducible refine x_isStr ?h ?_); (case h => first | assumption | exact part_ty (by assumption) | (intro _ hh; cases hh; done))
  | (with_reducible refine x_isTup ?h ?_); (case h => first | assumption | exact part_ty (by assumption) | (intro _ hh; cases hh; done))
  | (with_reducible refine x_isLst ?h ?_); (case h => first | assumption | exact part_ty (by assumption) | (intro _ hh; cases hh; done))
  | (with_reducible refine x_isDic ?h ?_); (case h => first | assumption | exact part_ty (by assumption) | (intro _ hh; cases hh; done))
  | (with_reducible refine x_itTe ?e ?_); (case e => rfl)
  | (with_reducible refine x_itFe ?e ?_); (case e => rfl)
  | with_reducible refine x_dnewO ?_
  | with_reducible refine x_dput ?_
  | with_reducible refine x_dix ?_
  | with_reducible refine x_sortedD ?_
  | with_reducible refine x_star ?_
  | with_reducible refine x_starT ?_
  | with_reducible refine x_frzD ?_
  | with_reducible refine x_sw ?_
  | with_reducible refine x_cnt ?_
  | with_reducible refine x_waC ?_
  | with_reducible refine x_waN ?_
  | with_reducible refine x_lenDD ?_
  | with_reducible refine x_allX ?_
  | (with_reducible show wFz _ _ _ _); refine x_fz rfl ?_
  | (with_reducible show wFzS _ _ _ _); refine x_fzS rfl ?_
  | (with_reducible show wFzO _ _ _ _); refine x_fzO rfl ?_
  | (with_reducible show wiK _ _ _); refine x_iK rfl ?_
  | (with_reducible show wiIt _ _ _); refine x_iIt rfl ?_
  | with_reducible refine x_iE1 ?_
  | with_reducible refine x_forR ?_
  | (with_reducible show wDIxV _ _ _ _); refine x_dixV rfl (cd_dicO _) ?_
  | (with_reducible show wDPop _ _ _ _); refine x_dpop rfl ?_
  | with_reducible refine x_pickO ?_
  | (with_reducible show wExt _ _ _ _); refine x_extO rfl ?_
  | with_reducible refine x_sortedR ?_
  | with_reducible refine x_sortedL ?_
  | with_reducible refine x_ixSt ?_
  | (with_reducible show wiVal _ _ _); refine x_iVal rfl ?_
  | with_reducible refine x_dictP ?_
  | with_reducible refine x_dictZip ?_
  | with_reducible refine x_revS ?_
  | with_reducible refine x_par ?_
  | (with_reducible show wIsiV _ _ _ _ _); refine x_isiV rfl ?_
  | ((with_reducible show _ ∧ _); refine And.intro (Nat.le_of_ble_eq_true rfl) ?_))
local macro_rules | `(tactic| walk_at "x") => `(tactic| repeat (walk_at "x1"))

section
variable {P : Program} {w : World} {K : PySem.W.Frag} {mg : Str → Option Value} {base : Heap} {tabs : List Addr}
/-! ### rows bent -/
theorem okT_of {oo : Str} {ts : List Ti} {xs : List Wi} (tr : TrOk oo ts xs) : OkT oo (ts.map Ti.d) (xs.map Wi.d) := by
  have tx : ∀ {a : Str}, nameB (.str a) = true → TxOk a := fun h => ⟨name_cp h, Nat.le_trans (name_len h) (by decide)⟩
  refine ⟨tx tr.hoo, fun t ht => ?_, fun t ht => ?_, ?_, ?_⟩
  · obtain ⟨y, hy, rfl⟩ := List.mem_map.mp ht
    have o := tr.hts y hy
    exact ⟨y.a, y.b, y.s, y.u, rfl, tx o.a, tx o.b⟩
  · obtain ⟨y, hy, rfl⟩ := List.mem_map.mp ht
    have o := tr.hxs y hy
    have d4 := deeds_four o.p
    obtain ⟨ds, e, od⟩ := deeds4_strs d4
    have l := (deeds4_tup d4).2.2.2.1
    rw [e] at l
    have l : (ds.map D.str).length ≤ 2 := l
    rw [List.length_map] at l
    exact ⟨y.a, ds, y.s, y.u, by rw [← e]; rfl, tx o.a, by omega, od⟩
  · rw [List.length_map]
    have := tr.tl
    omega
  · rw [List.length_map]
    have := tr.x6
    omega
def wPart : WUn := fun o ds Q => ∃ (n : Nat) (oo : Str) (ts : List Ti) (xs : List Wi) (r : Rw), ds = [trustD oo ts xs, r.d] ∧ TrOk oo ts xs ∧ r.W ∧ Un o n ∧ n + 10 ≤ 100000 ∧ ∀ (r' : Rw) o', r'.W → Un o' (n + 10) → Q (.f r'.d) o'
theorem mono__law_part : MonoU2 wPart := fun o ds Q Q' i ⟨n, oo, ts, xs, r, h1, h2, h3, h4, h5, q⟩ => ⟨n, oo, ts, xs, r, h1, h2, h3, h4, h5, fun r o h u => i _ _ (q r o h u)⟩
theorem ok_part (T : Txt K mg) (c__law_draw : Cal P w K mg base 1 "_law_draw" (spW K tabs (liftU wLot))) (c__law_others : Cal P w K mg base 1 "_law_others" (spW K tabs (liftF wOthers))) (A : At K mg "_law_part" s__law_part ["pool", "trust", "row"]) : Cal P w K mg base 2 "_law_part" (spW K tabs (liftU wPart)) := by
  refine A.of fun f fd F => fx_fnU F sc__law_part (fun o ds Q ⟨_, _, _, _, _, h, _⟩ => by rw [h]; rfl) fun cdv A outer s H E TT P0 σ0 hcd hr => ⟨_, (gss_cons (gs_setE (i := 3) sc__law_part.nd rfl (Or.inl rfl) (ge_op opx_add (ge_op opx_add (ge_lstD (gd_cons (GE.of_pure (gp_ix ixx (gp_var (pv 1)) gp_int (fun _ _ => rfl))) gd_nil)) (ge_callF c__law_others hr (by decide) rfl rfl rfl mono__law_others (gd_cons (GE.of_pure (gp_var (pv 1))) gd_nil))) (ge_lstD (gd_cons (GE.of_pure gp_str) (gd_cons (GE.of_pure gp_str) gd_nil)))))
      (gss_cons (gs_setE (i := 4) sc__law_part.nd rfl (Or.inl rfl) (ge_ix ixx (GE.of_pure (gp_var (pv 3))) (ge_callU c__law_draw hr (by decide) rfl rfl rfl mono__law_draw (pv 0) (gd_cons (ge_cbB1 cax_len (by rfl) T.z_len (by decide +kernel) (pv 3)) gd_nil)) (fun _ _ => rfl)))
      (gss_cons (gs_setE (i := 5) sc__law_part.nd rfl (Or.inl rfl) (ge_lstD (gd_cons (ge_tupD (gd_cons (GE.of_pure gp_str) gd_nil)) (gd_cons (ge_tupD (gd_cons (GE.of_pure gp_str) gd_nil)) (gd_cons (ge_tupD (gd_cons (GE.of_pure gp_str) (gd_cons (GE.of_pure gp_str) gd_nil))) (gd_cons (ge_tupD (gd_cons (GE.of_pure gp_str) (gd_cons (GE.of_pure gp_str) gd_nil))) gd_nil))))))
      (gss_cons (gs_setE (i := 6) sc__law_part.nd rfl (Or.inl rfl) (ge_callU c__law_draw hr (by decide) rfl rfl rfl mono__law_draw (pv 0) (gd_cons (GE.of_pure gp_int) gd_nil)))
      (gss_cons (gs_setE (i := 7) sc__law_part.nd rfl (Or.inl rfl) (ge_ix ixx (ge_lstD (gd_cons (GE.of_pure gp_int) (gd_cons (ge_un unx_neg (GE.of_pure gp_int)) (gd_cons (GE.of_pure gp_int) (gd_cons (ge_un unx_neg (GE.of_pure gp_int)) gd_nil))))) (ge_callU c__law_draw hr (by decide) rfl rfl rfl mono__law_draw (pv 0) (gd_cons (GE.of_pure gp_int) gd_nil)) (fun _ _ => rfl)))
      (gss_cons (gs_if (gt_cmpP (opx_eq hr.units) (gp_var (pv 6)) gp_int (nomark _))
      (gss_one (gs_ret (ge_op opx_add (ge_tupD (gd_cons (GE.of_pure (gp_var (pv 4))) gd_nil)) (ge_sl (GE.of_pure (gp_var (pv 2))) (go_some (GE.of_pure gp_int)) go_none))))
      gss_nil)
      (gss_cons (gs_if (gt_cmpP (opx_eq hr.units) (gp_var (pv 6)) gp_int (nomark _))
      (gss_one (gs_ret (ge_op opx_add (ge_op opx_add (ge_sl (GE.of_pure (gp_var (pv 2))) go_none (go_some (GE.of_pure gp_int))) (ge_tupD (gd_cons (GE.of_pure (gp_var (pv 4))) gd_nil))) (ge_sl (GE.of_pure (gp_var (pv 2))) (go_some (GE.of_pure gp_int)) go_none))))
      gss_nil)
      (gss_cons (gs_if (gt_cmpP (opx_eq hr.units) (gp_var (pv 6)) gp_int (nomark _))
      (gss_one (gs_ret (ge_op opx_add (ge_op opx_add (ge_sl (GE.of_pure (gp_var (pv 2))) go_none (go_some (GE.of_pure gp_int))) (ge_tupD (gd_cons (ge_ix ixx (GE.of_pure (gp_var (pv 5))) (ge_callU c__law_draw hr (by decide) rfl rfl rfl mono__law_draw (pv 0) (gd_cons (GE.of_pure gp_int) gd_nil)) (fun _ _ => rfl)) gd_nil))) (ge_sl (GE.of_pure (gp_var (pv 2))) (go_some (GE.of_pure gp_int)) go_none))))
      gss_nil)
      (gss_cons (gs_setE (i := 8) sc__law_part.nd rfl (Or.inl rfl) (ge_ix ixx (ge_lstD (gd_cons (GE.of_pure gp_int) (gd_cons (GE.of_pure gp_int) (gd_cons (GE.of_pure gp_int) (gd_cons (GE.of_pure gp_int) gd_nil))))) (GE.of_pure (gp_op opx_sub (gp_var (pv 6)) gp_int)) (fun _ _ => rfl)))
      (gss_one (gs_ret (ge_op opx_add (ge_op opx_add (ge_sl (GE.of_pure (gp_var (pv 2))) go_none (go_some (GE.of_pure (gp_var (pv 8))))) (ge_tupD (gd_cons (GE.of_pure (gp_op opx_add (gp_ix ixx (gp_var (pv 2)) (gp_var (pv 8)) (fun _ _ => rfl)) (gp_var (pv 7)))) gd_nil))) (ge_sl (GE.of_pure (gp_var (pv 2))) (go_some (GE.of_pure (gp_op opx_add (gp_var (pv 8)) gp_int))) go_none))))))))))))), fun o ds Q ⟨n, oo, ts, xs, r, e, tr, hw, u, hn, q⟩ => ?_⟩
  subst e
  refine x_start (e := [some (.own o), some (.f (.tup [.str oo, .tup (ts.map Ti.d), .tup (xs.map Wi.d)])), some (.f (.tup [.str r.g, .str r.h, r.p, .int r.s, .int r.u, .int r.k])), none, none, none, none, none, none]) rfl ?_
  walk_at "x"
  refine ⟨oo, ts.map Ti.d, xs.map Wi.d, rfl, okT_of tr, fun ys ye hy => ?_⟩
  have yl : ys.length ≤ 100 := by
    have h1 : dst (oths oo (ts.map Ti.d) (xs.map Wi.d)) ≤ (oths oo (ts.map Ti.d) (xs.map Wi.d)).length := dst_le fun _ h => h
    have h2 : (oths oo (ts.map Ti.d) (xs.map Wi.d)).length ≤ ((xs.map Wi.d).map nm0 ++ (ts.map Ti.d).map nm0 ++ (ts.map Ti.d).map nm1).length := List.length_filter_le ..
    have h3 := tr.tl
    have h4 := tr.x6
    simp only [List.length_append, List.length_map] at h2
    omega
  have ok4 : TxOk oo := ⟨name_cp tr.hoo, Nat.le_trans (name_len tr.hoo) (by decide)⟩
  have okq : TxOk "q" := by constructor <;> decide +kernel
  have oke : TxOk "" := by constructor <;> decide +kernel
  have e1 : [D.str oo] ++ ys.map D.str ++ [.str "q", .str ""] = (oo :: ys ++ ([("q" : Str), ("" : Str)] : List Str)).map D.str := by
    rw [List.map_append]
    rfl
  have okn : ∀ y ∈ oo :: ys ++ ([("q" : Str), ("" : Str)] : List Str), TxOk y := fun y h => by
    rcases List.mem_append.mp h with h | h
    · rcases List.mem_cons.mp h with rfl | h
      · exact ok4
      · exact hy y h
    · rcases List.mem_cons.mp h with rfl | h
      · exact okq
      · rw [List.mem_singleton.mp h]
        exact oke
  have nl : (oo :: ys ++ ([("q" : Str), ("" : Str)] : List Str)).length ≤ 200 ∧ 0 < (oo :: ys ++ ([("q" : Str), ("" : Str)] : List Str)).length := by
    simp only [List.length_append, List.length_cons, List.length_nil]
    omega
  walk_at "x"
  rw [e1]
  generalize oo :: ys ++ ([("q" : Str), ("" : Str)] : List Str) = nms at okn nl
  walk_at "x"
  rw [List.length_map]
  walk_at "x"
  intro c o2 c0 c1 u2
  walk_at "x"
  refine ix_name c0 c1 fun name hname => ?_
  have nok := okn name (List.mem_of_getElem? hname)
  walk_at "x"
  intro way o3 w0 w1 u3
  walk_at "x"
  intro mr o4 m0 m1 u4
  walk_at "x"
  refine x_ixM m0 (by simpa using m1) fun dm hm => ?_
  obtain ⟨more, rfl⟩ : ∃ w : Int, dm = .int w := by
    simp only [List.mem_cons, List.not_mem_nil, or_false] at hm
    rcases hm with rfl | rfl | rfl | rfl <;> exact ⟨_, rfl⟩
  obtain rfl | rfl | rfl | rfl | rfl | rfl | rfl : way = 0 ∨ way = 1 ∨ way = 2 ∨ way = 3 ∨ way = 4 ∨ way = 5 ∨ way = 6 := by omega
  · walk_at "x"
    refine x_slT (ds' := [.str r.h, r.p, .int r.s, .int r.u, .int r.k]) rfl ?_
    walk_at "x"
    exact q ⟨name, r.h, r.p, r.s, r.u, r.k⟩ o4 ⟨nok.1, nok.2, hw.h, hw.hl, hw.p⟩ (u4.mono (by omega))
  · walk_at "x"
    refine x_slT (ds' := [.str r.g]) rfl ?_
    walk_at "x"
    refine x_slT (ds' := [r.p, .int r.s, .int r.u, .int r.k]) rfl ?_
    walk_at "x"
    exact q ⟨r.g, name, r.p, r.s, r.u, r.k⟩ o4 ⟨hw.g, hw.gl, nok.1, nok.2, hw.p⟩ (u4.mono (by omega))
  · walk_at "x"
    refine x_slT (ds' := [.str r.g, .str r.h]) rfl ?_
    walk_at "x"
    intro z o5 z0 z1 u5
    walk_at "x"
    refine x_ixM z0 (by simpa using z1) fun dp hp => ?_
    walk_at "x"
    refine x_slT (ds' := [.int r.s, .int r.u, .int r.k]) rfl ?_
    walk_at "x"
    exact q ⟨r.g, r.h, dp, r.s, r.u, r.k⟩ o5 ⟨hw.g, hw.gl, hw.h, hw.hl, hp⟩ (u5.mono (by omega))
  · walk_at "x"
    refine x_slT (ds' := [.str r.g, .str r.h, r.p]) rfl ?_
    walk_at "x"
    refine x_slT (ds' := [.int r.u, .int r.k]) rfl ?_
    walk_at "x"
    exact q ⟨r.g, r.h, r.p, r.s + more, r.u, r.k⟩ o4 ⟨hw.g, hw.gl, hw.h, hw.hl, hw.p⟩ (u4.mono (by omega))
  · walk_at "x"
    refine x_slT (ds' := [.str r.g, .str r.h, r.p, .int r.s]) rfl ?_
    walk_at "x"
    refine x_slT (ds' := [.int r.k]) rfl ?_
    walk_at "x"
    exact q ⟨r.g, r.h, r.p, r.s, r.u + more, r.k⟩ o4 ⟨hw.g, hw.gl, hw.h, hw.hl, hw.p⟩ (u4.mono (by omega))
  · walk_at "x"
    refine x_slT (ds' := [.str r.g, .str r.h, r.p, .int r.s, .int r.u]) rfl ?_
    walk_at "x"
    refine x_slT (ds' := []) rfl ?_
    walk_at "x"
    exact q ⟨r.g, r.h, r.p, r.s, r.u, r.k + more⟩ o4 ⟨hw.g, hw.gl, hw.h, hw.hl, hw.p⟩ (u4.mono (by omega))
  · walk_at "x"
    refine x_slT (ds' := [.str r.g, .str r.h, r.p, .int r.s, .int r.u]) rfl ?_
    walk_at "x"
    refine x_slT (ds' := []) rfl ?_
    walk_at "x"
    exact q ⟨r.g, r.h, r.p, r.s, r.u, r.k + more⟩ o4 ⟨hw.g, hw.gl, hw.h, hw.hl, hw.p⟩ (u4.mono (by omega))

end
end K75

namespace K75
open PySem PySem.Spec PyProof.Rows L2 Lk Evl Fx



local macro_rules | `(tactic| walk_at "sz") => `(tactic| first
  | exact Nat.le_of_ble_eq_true rfl
  | assumption
  | exact small_sz (Nat.le_of_ble_eq_true rfl)
  | (simp only [List.length_cons, List.length_nil, List.length_map, List.length_append]; first | omega | exact small_sz (by omega)))
local macro_rules | `(tactic| walk_at "x1") => `(tactic| first
  | with_reducible refine x_seq ?_
  | (with_reducible show wVar _ _ _); first | refine x_varF rfl ?_ | refine x_varO rfl ?_ | refine x_varV rfl ?_
  | with_reducible refine x_c ?_
  | with_reducible refine x_exf ?_
  | with_reducible refine x_excd ?_
  | (with_reducible show ∃ d1, Sl.cd (Sl.vw _) = some d1 ∧ _); refine x_excV rfl ?_
  | (with_reducible show ∃ d1, Sl.cd (Sl.own _) = some d1 ∧ _); refine x_excO rfl ?_
  | with_reducible refine x_binP ?_
  | with_reducible refine x_bin ?_
  | with_reducible refine x_adC ?_
  | with_reducible refine x_adN ?_
  | with_reducible refine x_lst ?_
  | with_reducible refine x_tup ?_
  | with_reducible refine x_lstO ?_
  | (with_reducible refine x_and (p := _ ≤ sizeLine) ?h ?_); (case h => walk_at "sz")
  | with_reducible refine x_callF ?_
  | with_reducible refine x_callL ?_
  | with_reducible refine x_listO ?_
  | (with_reducible show wCallU _ _ _ _ _); refine x_callU rfl ?_
  | with_reducible refine x_callV ?_
  | with_reducible refine x_join ?_
  | with_reducible refine x_waD ?_
  | with_reducible refine x_lc ?_
  | with_reducible refine x_lc2 ?_
  | with_reducible refine x_lenSets ?_
  | (with_reducible show wApp _ _ _ _); refine x_app rfl ?_
  | (with_reducible show wBinV _ _ _ _ _); refine x_binV rfl ?_
  | (with_reducible show wPopD _ _ _ _); refine x_popD rfl ?_
  | (with_reducible show wCatV _ _ _ _); refine x_catV rfl ?_
  | with_reducible refine x_slN2 ?_
  | with_reducible refine x_sortedSets ?_
  | with_reducible refine x_tplL ?_
  | with_reducible refine x_tplT ?_
  | with_reducible refine x_isB ?_
  | with_reducible refine x_r1 ?_
  | with_reducible refine x_r2 ?_
  | (with_reducible refine x_r1e ?h0 ?h1 ?_); (case h0 => omega); (case h1 => omega)
  | with_reducible refine x_iL ?_
  | with_reducible refine x_iT ?_
  | with_reducible refine x_iS ?_
  | with_reducible refine x_iE ?_
  | with_reducible refine x_iEe ?_
  | with_reducible refine x_yes ?_
  | with_reducible refine x_for ?_
  | (with_reducible show wLot _ [D.int _] _); (refine' x_lot (by assumption) ?h1 ?h2 ?h3 ?_); (case h1 => omega); (case h2 => first | decide | omega); (case h3 => first | decide | omega)
  | (with_reducible show ∃ o, _ = some (some (Sl.own o)) ∧ _); refine x_exO rfl ?_
  | with_reducible refine x_exo ?_
  | with_reducible refine x_ret ?_
  | with_reducible refine x_set ?_
  | with_reducible refine x_fin ?_
  | with_reducible refine x_fino ?_
  | (with_reducible refine x_and (p := _ < List.length _) ?h ?_); (case h => exact Nat.le_of_ble_eq_true rfl); (try dsimp only [List.set_cons_succ, List.set_cons_zero])
  | with_reducible refine x_next ?_
  | with_reducible refine x_retN ?_
  | with_reducible refine x_drop ?_
  | with_reducible refine x_asg ?_
  | (with_reducible refine x_gtp ?h ?_); (case h => rfl)
  | with_reducible refine x_gcons ?_
  | with_reducible refine x_gnil ?_
  | (with_reducible refine x_gn ?h ?_); (case h => exact Nat.le_of_ble_eq_true rfl); (try dsimp only [List.set_cons_succ, List.set_cons_zero])
  | with_reducible refine x_ifS ?_
  | with_reducible refine x_if ?_
  | with_reducible refine x_itT ?_
  | with_reducible refine x_itF ?_
  | with_reducible refine x_iteN ?_
  | with_reducible refine x_tru ?_
  | with_reducible refine x_tB ?_
  | with_reducible refine x_dtB ?_
  | with_reducible refine x_dtN ?_
  | with_reducible refine x_exb ?_
  | with_reducible refine x_exdb ?_
  | with_reducible refine x_tand ?_
  | with_reducible refine x_tor ?_
  | with_reducible refine x_tnot ?_
  | with_reducible refine x_and2 ?_
  | with_reducible refine x_or2 ?_
  | with_reducible refine x_not2 ?_
  | with_reducible refine x_chain ?_
  | with_reducible refine x_sub ?_
  | with_reducible refine x_addI ?_
  | (with_reducible refine x_addS ?h ?_); (case h => walk_at "sz")
  | (with_reducible refine x_addL ?h ?_); (case h => walk_at "sz")
  | (with_reducible refine x_addT ?h ?_); (case h => walk_at "sz")
  | with_reducible refine x_lt ?_
  | with_reducible refine x_le ?_
  | with_reducible refine x_gt ?_
  | with_reducible refine x_ge ?_
  | with_reducible refine x_ltS ?_
  | with_reducible refine x_eqI ?_
  | with_reducible refine x_neI ?_
  | with_reducible refine x_allSg ?_
  | with_reducible refine x_m0 ?_
  | with_reducible refine x_lstT ?_
  | with_reducible refine x_lstL ?_
  | with_reducible refine x_strB ?_
  | with_reducible refine x_strN ?_
  | with_reducible refine x_strS ?_
  | with_reducible refine x_isT ?_
  | with_reducible refine x_isI ?_
  | with_reducible refine x_neg ?_
  | with_reducible refine x_un ?_
  | (with_reducible refine x_pow ?h ?_); (case h => exact ⟨by decide, by decide +kernel⟩)
  | (with_reducible refine x_mod ?h ?_); (case h => first | decide | omega)
  | (with_reducible refine x_mul ?h ?_); (case h => exact mul_ok (by first | decide | omega) (by first | decide | omega))
  | (with_reducible refine x_div ?h ?_); (case h => exact div_ok (by first | decide | omega) (by first | decide | omega))
  | with_reducible refine x_ipA ?_
  | (with_reducible show wAugL _ _ _ _ _ _); refine x_augL rfl ?_
  | (with_reducible show wAug _ _ _ _ _); refine x_aug rfl ?_
  | (with_reducible show ∃ k' ds d, Sl.f (D.int _) = Sl.f (D.int k') ∧ _); refine x_augL1 rfl (by decide) rfl ?_
  | (with_reducible show ∃ k' j ds, Sl.f (D.int _) = Sl.f (D.int k') ∧ _ = some (some (Sl.own (O.lst ds))) ∧ ixN _ k' = some j ∧ _); refine x_setL1 rfl rfl ?_; (try dsimp only [List.set_cons_succ, List.set_cons_zero])
  | (with_reducible show ∃ ds j, _ = some (some (Sl.own (O.lst ds))) ∧ ixN _ _ = some j ∧ _); refine x_augL2 rfl rfl ?_; (try dsimp only [List.set_cons_succ, List.set_cons_zero])
  | (with_reducible show gSetL _ _ _ _ _); refine x_setL rfl ?_
  | (with_reducible show dIx (D.lst _) (D.int _) _); refine x_ixL rfl ?_
  | (with_reducible show dIx (D.tup _) (D.int _) _); refine x_ixT rfl ?_
  | with_reducible refine x_cb ?_
  | (with_reducible show wCB1 _ _ _ _); refine x_cb1 rfl rfl ?_
  | with_reducible refine x_fm ?_
  | with_reducible refine x_exl ?_
  | with_reducible refine x_ext ?_
  | with_reducible refine x_exs ?_
  | with_reducible refine x_exi ?_
  | with_reducible refine x_sl ?_
  | with_reducible refine x_slN ?_
  | with_reducible refine x_slS ?_
  | with_reducible refine x_frz ?_
  | with_reducible refine x_frL ?_
  | with_reducible refine x_revT ?_
  | with_reducible refine x_revL ?_
  | with_reducible refine x_splitO ?_
  | (with_reducible show wSlO _ _ _ _ _); refine x_slO rfl ?_
  | (with_reducible show ∃ ds2, _ = some (some (Sl.own (O.lst ds2))) ∧ _); refine x_exOl rfl ?_
  | with_reducible refine x_dictO ?_
  | with_reducible refine x_psC ?_
  | with_reducible refine x_psN ?_
  | with_reducible refine x_get ?_
  | (with_reducible show gSetSl _ _ _ _ _ _); refine x_setSl rfl ?_
  | with_reducible refine x_split ?_
  | with_reducible refine x_isN1 ?_
  | with_reducible refine x_isN0 rfl ?_
  | with_reducible refine x_iZ ?_
  | with_reducible refine x_zT ?_
  | with_reducible refine x_zL ?_
  | with_reducible refine x_stp ?_
  | with_reducible refine x_js ?_
  | with_reducible refine x_jsC ?_
  | with_reducible refine x_jsN ?_
  | with_reducible refine x_fmt ?_
  | with_reducible refine x_callFX ?_
  | (with_reducible refine x_glp ?h ?_); (case h => rfl)
  | with_reducible refine x_raiseR ?_
  | with_reducible refine x_row ?_
  | with_reducible refine x_lenL ?_
  | with_reducible refine x_lenT ?_
  | with_reducible refine x_lenD ?_
  | (with_reducible refine x_lenS ?h ?_); (case h => walk_at "sz")
  | with_reducible refine x_max ?_
  | with_reducible refine x_min ?_
  | with_reducible refine x_intI ?_
  | with_reducible refine x_intB ?_
  | (with_reducible refine x_isInt ?h ?_); (case h => first | assumption | exact part_ty (by assumption) | (intro _ hh; cases hh; done))
  | (with_reducible refine x_isBl ?h ?_); (case h => first | assumption | exact part_ty (by assumption) | (intro _ hh; cases hh; done))
  | (with_reducible refine x_isStr ?h ?_); (case h => first | assumption | exact part_ty (by assumption) | (intro _ hh; cases hh; done))
  | (with_reducible refine x_isTup ?h ?_); (case h => first | assumption | exact part_ty (by assumption) | (intro _ hh; cases hh; done))
  | (with_reducible refine x_isLst ?h ?_); (case h => first | assumption | exact part_ty (by assumption) | (intro _ hh; cases hh; done))
  | (with_reducible refine x_isDic ?h ?_); (case h => first | assumption | exact part_ty (by assumption) | (intro _ hh; cases hh; done))
  | (with_reducible refine x_itTe ?e ?_); (case e => rfl)
  | (with_reducible refine x_itFe ?e ?_); (case e => rfl)
  | with_reducible refine x_dnewO ?_
  | with_reducible refine x_dput ?_
  | with_reducible refine x_dix ?_
  | with_reducible refine x_sortedD ?_
  | with_reducible refine x_star ?_
  | with_reducible refine x_starT ?_
  | with_reducible refine x_frzD ?_
  | with_reducible refine x_sw ?_
  | with_reducible refine x_cnt ?_
  | with_reducible refine x_waC ?_
  | with_reducible refine x_waN ?_
  | with_reducible refine x_lenDD ?_
  | with_reducible refine x_allX ?_
  | (with_reducible show wFz _ _ _ _); refine x_fz rfl ?_
  | (with_reducible show wFzS _ _ _ _); refine x_fzS rfl ?_
  | (with_reducible show wFzO _ _ _ _); refine x_fzO rfl ?_
  | (with_reducible show wiK _ _ _); refine x_iK rfl ?_
  | (with_reducible show wiIt _ _ _); refine x_iIt rfl ?_
  | with_reducible refine x_iE1 ?_
  | with_reducible refine x_forR ?_
  | (with_reducible show wDIxV _ _ _ _); refine x_dixV rfl (cd_dicO _) ?_
  | (with_reducible show wDPop _ _ _ _); refine x_dpop rfl ?_
  | with_reducible refine x_pickO ?_
  | (with_reducible show wExt _ _ _ _); refine x_extO rfl ?_
  | with_reducible refine x_sortedR ?_
  | with_reducible refine x_sortedL ?_
  | with_reducible refine x_ixSt ?_
  | (with_reducible show wiVal _ _ _); refine x_iVal rfl ?_
  | with_reducible refine x_dictP ?_
  | with_reducible refine x_dictZip ?_
  | with_reducible refine x_revS ?_
  | with_reducible refine x_par ?_
  | (with_reducible show wIsiV _ _ _ _ _); refine x_isiV rfl ?_
  | ((with_reducible show _ ∧ _); refine And.intro (Nat.le_of_ble_eq_true rfl) ?_))
local macro_rules | `(tactic| walk_at "x") => `(tactic| repeat (walk_at "x1"))

section
variable {P : Program} {w : World} {K : PySem.W.Frag} {mg : Str → Option Value} {base : Heap} {tabs : List Addr}
def cutR (rs : List Rw) (lo hi : Option Int) : List Rw := (rs.drop (HT.sIx rs.length 0 lo)).take (HT.sIx rs.length rs.length hi - HT.sIx rs.length 0 lo)
theorem cutR_d {rs : List Rw} {lo hi : Option Int} : Fx.cutD (rs.map Rw.d) lo hi = (cutR rs lo hi).map Rw.d := by
  unfold Fx.cutD cutR
  rw [List.length_map, List.map_take, List.map_drop]
theorem cutR_mem {rs : List Rw} {lo hi : Option Int} {r : Rw} (h : r ∈ cutR rs lo hi) : r ∈ rs := List.mem_of_mem_drop (List.mem_of_mem_take h)
theorem cutR_len {rs : List Rw} {lo hi : Option Int} : (cutR rs lo hi).length ≤ rs.length := by
  unfold cutR
  rw [List.length_take, List.length_drop]
  omega
theorem x_slR {rs : List Rw} {lo hi : Option Int} {Q : D → Prop} (h : ∀ as : List Rw, (∀ r ∈ as, r ∈ rs) → as.length ≤ rs.length → Q (.tup (as.map Rw.d))) : dSl (.tup (rs.map Rw.d)) lo hi Q := x_slT cutR_d (h _ (fun _ h => cutR_mem h) cutR_len)
theorem okPy_rowsT {rs : List Rw} (h : ∀ r ∈ rs, r.W) : okPy (.tup (rs.map Rw.d)) = true := by
  refine (fit_tup (n := 2) fun x hx => ?_).ok (by decide)
  obtain ⟨r, hr, rfl⟩ := List.mem_map.mp hx
  exact fit_row (h r hr)
theorem nil_tup (l : List D) : eqB (.tup l) (.tup []) = l.isEmpty := by
  cases l <;> (show PyData.eqvAll (D.pyL _) [] = _; simp [D.pyL, PyData.eqvAll])
theorem ix_row {rs : List Rw} {k : Int} {QD : D → Prop} (h0 : 0 ≤ k) (h1 : k < (rs.length : Int)) (h : ∀ r, rs[k.toNat]? = some r → QD r.d) : dIx (.tup (rs.map Rw.d)) (.int k) QD := by
  obtain ⟨d, e1, e2⟩ := atI_at (ds := rs.map Rw.d) h0 (by rw [List.length_map]; exact h1)
  rw [List.getElem?_map] at e2
  obtain ⟨r, hr, rfl⟩ := Option.map_eq_some_iff.mp e2
  exact x_ixT e1 (h r hr)
theorem ixN_in {n : Nat} {i : Int} (h0 : 0 ≤ i) (h1 : i < (n : Int)) : ixN n i = some i.toNat := by
  unfold ixN
  rw [if_pos h0, if_pos h1]
def wBent : WUn := fun o ds Q => ∃ (n : Nat) (oo : Str) (ts : List Ti) (xs : List Wi) (rs : List Rw), ds = [trustD oo ts xs, .tup (rs.map Rw.d)] ∧ TrOk oo ts xs ∧ (∀ r ∈ rs, r.W) ∧ rs.length ≤ 23 ∧ Un o n ∧ n + 30 ≤ 100000 ∧
  ∀ (rs' : List Rw) o', (∀ r ∈ rs', r.W) → rs'.length ≤ 2 * rs.length + 1 → Un o' (n + 30) → Q (.f (.tup (rs'.map Rw.d))) o'
theorem mono__law_bent : MonoU2 wBent := fun o ds Q Q' i ⟨n, oo, ts, xs, rs, h1, h2, h3, h4, h5, h6, q⟩ => ⟨n, oo, ts, xs, rs, h1, h2, h3, h4, h5, h6, fun r o h l u => i _ _ (q r o h l u)⟩
theorem ok_bent (T : Txt K mg) (c__law_draw : Cal P w K mg base 1 "_law_draw" (spW K tabs (liftU wLot))) (c__law_part : Cal P w K mg base 2 "_law_part" (spW K tabs (liftU wPart))) (A : At K mg "_law_bent" s__law_bent ["pool", "trust", "rows"]) : Cal P w K mg base 3 "_law_bent" (spW K tabs (liftU wBent)) := by
  refine A.of fun f fd F => fx_fnU F sc__law_bent (fun o ds Q ⟨_, _, _, _, _, h, _⟩ => by rw [h]; rfl) fun cdv A outer s H E TT P0 σ0 hcd hr => ⟨_, (gss_cons (gs_setE (i := 3) sc__law_bent.nd rfl (Or.inl rfl) (ge_callU c__law_draw hr (by decide) rfl rfl rfl mono__law_draw (pv 0) (gd_cons (GE.of_pure gp_int) gd_nil)))
      (gss_cons (gs_if (gt_cmp (opx_eq hr.units) (GE.of_pure (gp_var (pv 2))) (ge_tupD gd_nil) (nomark _))
      (gss_cons (gs_asg (GE.of_pure (gp_ix ixx (gp_ix ixx (gp_var (pv 1)) gp_int (fun _ _ => rfl)) gp_int (fun _ _ => rfl))) (gg_tup (n := 4) rfl (ggs_cons (pg_name (i := 4) sc__law_bent.nd rfl (Or.inl rfl)) rfl (ggs_cons (pg_name (i := 5) sc__law_bent.nd rfl (Or.inl rfl)) rfl (ggs_cons (pg_name (i := 6) sc__law_bent.nd rfl (Or.inl rfl)) rfl (ggs_cons (pg_name (i := 7) sc__law_bent.nd rfl (Or.inl rfl)) rfl ggs_nil))))))
      (gss_one (gs_ret (ge_tupD (gd_cons (ge_tupD (gd_cons (GE.of_pure (gp_ix ixx (gp_var (pv 1)) gp_int (fun _ _ => rfl))) (gd_cons (GE.of_pure (gp_var (pv 4))) (gd_cons (GE.of_pure (gp_var (pv 5))) (gd_cons (GE.of_pure (gp_var (pv 6))) (gd_cons (GE.of_pure (gp_var (pv 7))) (gd_cons (ge_callU c__law_draw hr (by decide) rfl rfl rfl mono__law_draw (pv 0) (gd_cons (GE.of_pure gp_int) gd_nil)) gd_nil))))))) gd_nil)))))
      gss_nil)
      (gss_cons (gs_setE (i := 8) sc__law_bent.nd rfl (Or.inl rfl) (ge_callU c__law_draw hr (by decide) rfl rfl rfl mono__law_draw (pv 0) (gd_cons (ge_cbB1 cax_len (by rfl) T.z_len (by decide +kernel) (pv 2)) gd_nil)))
      (gss_cons (gs_setE (i := 9) sc__law_bent.nd rfl (Or.inl rfl) (ge_callU c__law_draw hr (by decide) rfl rfl rfl mono__law_draw (pv 0) (gd_cons (ge_cbB1 cax_len (by rfl) T.z_len (by decide +kernel) (pv 2)) gd_nil)))
      (gss_cons (gs_if (gt_cmpP opx_lt (gp_var (pv 3)) gp_int (nomark _))
      (gss_one (gs_ret (ge_op opx_add (ge_op opx_add (ge_sl (GE.of_pure (gp_var (pv 2))) go_none (go_some (GE.of_pure (gp_var (pv 8))))) (ge_tupD (gd_cons (ge_callU c__law_part hr (by decide) rfl rfl rfl mono__law_part (pv 0) (gd_cons (GE.of_pure (gp_var (pv 1))) (gd_cons (GE.of_pure (gp_ix ixx (gp_var (pv 2)) (gp_var (pv 8)) (fun _ _ => rfl))) gd_nil))) gd_nil))) (ge_sl (GE.of_pure (gp_var (pv 2))) (go_some (GE.of_pure (gp_op opx_add (gp_var (pv 8)) gp_int))) go_none))))
      gss_nil)
      (gss_cons (gs_if (gt_cmpP (opx_eq hr.units) (gp_var (pv 3)) gp_int (nomark _))
      (gss_one (gs_ret (ge_op opx_add (ge_sl (GE.of_pure (gp_var (pv 2))) go_none (go_some (GE.of_pure (gp_var (pv 8))))) (ge_sl (GE.of_pure (gp_var (pv 2))) (go_some (ge_op opx_add (GE.of_pure (gp_var (pv 8))) (ge_ix ixx (ge_lstD (gd_cons (GE.of_pure gp_int) (gd_cons (GE.of_pure gp_int) gd_nil))) (ge_callU c__law_draw hr (by decide) rfl rfl rfl mono__law_draw (pv 0) (gd_cons (GE.of_pure gp_int) gd_nil)) (fun _ _ => rfl)))) go_none))))
      gss_nil)
      (gss_cons (gs_if (gt_cmpP (opx_eq hr.units) (gp_var (pv 3)) gp_int (nomark _))
      (gss_cons (gs_setE (i := 10) sc__law_bent.nd rfl (Or.inr rfl) (ge_callU c__law_part hr (by decide) rfl rfl rfl mono__law_part (pv 0) (gd_cons (GE.of_pure (gp_var (pv 1))) (gd_cons (GE.of_pure (gp_ix ixx (gp_var (pv 2)) (gp_var (pv 8)) (fun _ _ => rfl))) gd_nil))))
      (gss_cons (gs_lcFR1 (i := 11) (own := [("one", 12)]) (t := .name 12) rfl sc__law_bent.nd rfl rfl (sw_true rfl rfl rfl (by decide +kernel)) (gi_tup (GE.of_pure (gp_var (pv 2)))) (blkOk_by (own := [("one", 12)]) (N := ["pool", "trust", "rows", "way", "actor", "deeds", "since", "until", "at", "to", "row", "ahead", "one", "some", "spot"]) (sc := defScope s__law_bent) (by decide +kernel)) (fun _ _ _ _ _ => (pg_name (i := 12) sc__law_bent.nd rfl (Or.inl rfl))) (fun _ _ _ _ _ => (gt_cmpP opx_le (gp_ix ixx (gp_var (pv 12)) gp_int (fun _ _ => rfl)) (gp_ix ixx (gp_var (pv 10)) gp_int (fun _ _ => rfl)) (nomark _))) (fun _ _ _ _ _ => (GE.of_pure (gp_var (pv 12)))) (by decide) (mem1 rfl) (mem1 (Nat.le_of_ble_eq_true rfl)))
      (gss_one (gs_ret (ge_cbT cax_tuple (by rfl) T.z_tuple (by decide +kernel) (gd_cons (ge_op opx_add (ge_op opx_add (GE.of_pure (gp_var (pv 11))) (ge_lstD (gd_cons (GE.of_pure (gp_var (pv 10))) gd_nil))) (ge_frz (ge_lcR1 (own := [("one", 12)]) (t := .name 12) rfl sc__law_bent.nd (gi_tup (GE.of_pure (gp_var (pv 2)))) (blkOk_by (own := [("one", 12)]) (N := ["pool", "trust", "rows", "way", "actor", "deeds", "since", "until", "at", "to", "row", "ahead", "one", "some", "spot"]) (sc := defScope s__law_bent) (by decide +kernel)) (fun _ _ _ _ _ => (pg_name (i := 12) sc__law_bent.nd rfl (Or.inl rfl))) (fun _ _ _ _ _ => (gt_cmpP opx_gt (gp_ix ixx (gp_var (pv 12)) gp_int (fun _ _ => rfl)) (gp_ix ixx (gp_var (pv 10)) gp_int (fun _ _ => rfl)) (nomark _))) (fun _ _ _ _ _ => (GE.of_pure (gp_var (pv 12)))) (by decide) (mem1 rfl) (mem1 (Nat.le_of_ble_eq_true rfl))))) gd_nil))))))
      gss_nil)
      (gss_cons (gs_if (gt_cmpP (opx_eq hr.units) (gp_var (pv 3)) gp_int (nomark _))
      (gss_cons (gs_setE (i := 13) sc__law_bent.nd rfl (Or.inl rfl) (ge_listO rfl T.z_list (GE.of_pure (gp_var (pv 2)))))
      (gss_cons (gs_asg (ge_tupD (gd_cons (GE.of_pure (gp_ix ixx (gp_var (pv 2)) (gp_var (pv 9)) (fun _ _ => rfl))) (gd_cons (GE.of_pure (gp_ix ixx (gp_var (pv 2)) (gp_var (pv 8)) (fun _ _ => rfl))) gd_nil))) (gg_tup (n := 2) rfl (ggs_consG (gg_setL (pv 13) (GE.of_pure (gp_var (pv 8)))) (ggs_consG (gg_setL (pv 13) (GE.of_pure (gp_var (pv 9)))) ggs_nil))))
      (gss_one (gs_ret (ge_cbT1 cax_tuple (by rfl) T.z_tuple (by decide +kernel) (pv 13))))))
      gss_nil)
      (gss_cons (gs_setE (i := 14) sc__law_bent.nd rfl (Or.inr rfl) (ge_op opx_add (GE.of_pure gp_int) (ge_callU c__law_draw hr (by decide) rfl rfl rfl mono__law_draw (pv 0) (gd_cons (GE.of_pure gp_int) gd_nil))))
      (gss_one (gs_ret (ge_cbT cax_tuple (by rfl) T.z_tuple (by decide +kernel) (gd_cons (ge_frz (ge_lcR (own := [("row", 10)]) (t := .name 10) rfl sc__law_bent.nd (gi_tup (GE.of_pure (gp_var (pv 2)))) (blkOk_by (own := [("row", 10)]) (N := ["pool", "trust", "rows", "way", "actor", "deeds", "since", "until", "at", "to", "row", "ahead", "one", "some", "spot"]) (sc := defScope s__law_bent) (by decide +kernel)) (fun _ _ _ _ _ => (pg_name (i := 10) sc__law_bent.nd rfl (Or.inl rfl))) (fun _ _ _ _ _ => (ge_op opx_add (ge_op opx_add (ge_sl (GE.of_pure (gp_var (pv 10))) go_none (go_some (GE.of_pure (gp_var (pv 14))))) (ge_tupD (gd_cons (GE.of_pure (gp_op opx_add (gp_ix ixx (gp_var (pv 10)) (gp_var (pv 14)) (fun _ _ => rfl)) gp_int)) gd_nil))) (ge_sl (GE.of_pure (gp_var (pv 10))) (go_some (GE.of_pure (gp_op opx_add (gp_var (pv 14)) gp_int))) go_none))) (by decide) (mem1 rfl) (mem1 (Nat.le_of_ble_eq_true rfl)))) gd_nil))))))))))))), fun o ds Q ⟨n, oo, ts, xs, rs, e, tr, hrs, hl, u, hn, q⟩ => ?_⟩
  subst e
  have hl' : (rs.map Rw.d).length ≤ 23 := by rw [List.length_map]; exact hl
  refine x_start (e := [some (.own o), some (.f (.tup [.str oo, .tup (ts.map Ti.d), .tup (xs.map Wi.d)])), some (.f (.tup (rs.map Rw.d))), none, none, none, none, none, none, none, none, none, none, none, none]) rfl ?_
  walk_at "x"
  intro way o2 w0 w1 u2
  walk_at "x"
  refine x_eqD (okPy_rowsT hrs) (by decide +kernel) ?_
  rw [nil_tup]
  cases rs with
  | nil =>
    obtain ⟨x, xr, rfl⟩ : ∃ x xr, xs = x :: xr := by
      cases xs with
      | nil => exact absurd tr.x1 (by decide)
      | cons a b => exact ⟨a, b, rfl⟩
    have xo := tr.hxs x (List.mem_cons_self ..)
    walk_at "x"
    refine x_ixT (d := x.d) (L2.atI_nat (xs := (x :: xr).map Wi.d) (j := 0) rfl) ?_
    rw [show x.d = .tup [.str x.a, x.p, .int x.s, .int x.u] from rfl]
    walk_at "x"
    intro k o3 k0 k1 u3
    walk_at "x"
    refine q [⟨oo, x.a, x.p, x.s, x.u, k⟩] o3 (fun r hr => ?_) (Nat.le_refl _) (u3.mono (by omega))
    rw [List.mem_singleton.mp hr]
    exact ⟨name_cp tr.hoo, Nat.le_trans (name_len tr.hoo) (by decide), name_cp xo.a, Nat.le_trans (name_len xo.a) (by decide), deeds_four xo.p⟩
  | cons r0 rr =>
    have ne : ((r0 :: rr).map Rw.d).isEmpty = false := rfl
    rw [ne]
    have pos : 0 < (r0 :: rr).length := Nat.succ_pos _
    generalize r0 :: rr = rs at hrs hl q hl' pos
    walk_at "x"
    rw [List.length_map]
    walk_at "x"
    intro at_ o3 a0 a1 u3
    walk_at "x"
    rw [List.length_map]
    walk_at "x"
    intro to o4 t0 t1 u4
    walk_at "x"
    refine x_ite (fun h1 => ?_) (fun h1 => ?_)
    · walk_at "x"
      refine x_slR fun as as1 as2 => ?_
      walk_at "x"
      refine ix_row a0 (by omega) fun r hr => ?_
      have rw_ := hrs r (List.mem_of_getElem? hr)
      walk_at "x"
      refine ⟨_, oo, ts, xs, r, rfl, tr, rw_, u4, by omega, fun r2 o5 hw2 u5 => ?_⟩
      walk_at "x"
      refine x_slR fun bs bs1 bs2 => ?_
      walk_at "x"
      rw [show as.map Rw.d ++ [r2.d] ++ bs.map Rw.d = (as ++ [r2] ++ bs).map Rw.d by rw [List.map_append, List.map_append]; rfl]
      refine q _ o5 (fun z hz => ?_) (by simp only [List.length_append, List.length_singleton]; omega) (u5.mono (by omega))
      rcases List.mem_append.mp hz with hz | hz
      · rcases List.mem_append.mp hz with hz | hz
        · exact hrs z (as1 z hz)
        · rw [List.mem_singleton.mp hz]
          exact hw2
      · exact hrs z (bs1 z hz)
    have h1 : ¬ way < 4 := by simpa using h1
    obtain rfl | rfl | rfl | rfl : way = 4 ∨ way = 5 ∨ way = 6 ∨ way = 7 := by omega
    · walk_at "x"
      refine x_slR fun as as1 as2 => ?_
      walk_at "x"
      intro z o5 z0 z1 u5
      walk_at "x"
      refine x_ixM z0 (by simpa using z1) fun dp hp => ?_
      obtain ⟨sh, rfl⟩ : ∃ w : Int, dp = .int w := by
        simp only [List.mem_cons, List.not_mem_nil, or_false] at hp
        rcases hp with rfl | rfl <;> exact ⟨_, rfl⟩
      walk_at "x"
      refine x_slR fun bs bs1 bs2 => ?_
      walk_at "x"
      rw [← List.map_append]
      refine q _ o5 (fun z hz => ?_) (by simp only [List.length_append]; omega) (u5.mono (by omega))
      rcases List.mem_append.mp hz with hz | hz
      · exact hrs z (as1 z hz)
      · exact hrs z (bs1 z hz)
    · walk_at "x"
      refine ix_row a0 (by omega) fun r hr => ?_
      have rw_ := hrs r (List.mem_of_getElem? hr)
      walk_at "x"
      refine ⟨_, oo, ts, xs, r, rfl, tr, rw_, u4, by omega, fun r2 o5 hw2 u5 => ?_⟩
      rw [show r2.d = .tup [.str r2.g, .str r2.h, r2.p, .int r2.s, .int r2.u, .int r2.k] from rfl]
      walk_at "x"
      refine ⟨by omega, fun i acc e => (∃ as : List Rw, acc = as.map Rw.d ∧ (∀ r ∈ as, r ∈ rs) ∧ as.length ≤ i) ∧ ∃ x12, e = [some (.own o5), some (.f (.tup [.str oo, .tup (ts.map Ti.d), .tup (xs.map Wi.d)])), some (.f (.tup (rs.map Rw.d))), some (.f (.int 5)), none, none, none, none, some (.f (.int at_)), some (.f (.int to)), some (.f (.tup [.str r2.g, .str r2.h, r2.p, .int r2.s, .int r2.u, .int r2.k])), none, x12, none, none], ⟨⟨[], rfl, nofun, Nat.le_refl _⟩, _, rfl⟩, ?_, ?_⟩
      · rintro i d acc e hd ⟨⟨as, rfl, as1, as2⟩, x12, rfl⟩
        rw [List.getElem?_map] at hd
        obtain ⟨y, hy, rfl⟩ := Option.map_eq_some_iff.mp hd
        have ym := List.mem_of_getElem? hy
        have yes : ∃ as' : List Rw, as.map Rw.d ++ [y.d] = as'.map Rw.d ∧ (∀ r ∈ as', r ∈ rs) ∧ as'.length ≤ i + 1 := ⟨as ++ [y], by rw [List.map_append]; rfl, fun z hz => by
          rcases List.mem_append.mp hz with hz | hz
          · exact as1 z hz
          · rw [List.mem_singleton.mp hz]
            exact ym, by rw [List.length_append]; exact Nat.succ_le_succ as2⟩
        have no : ∃ as' : List Rw, as.map Rw.d = as'.map Rw.d ∧ (∀ r ∈ as', r ∈ rs) ∧ as'.length ≤ i + 1 := ⟨as, rfl, as1, Nat.le_succ_of_le as2⟩
        rw [show y.d = .tup [.str y.g, .str y.h, y.p, .int y.s, .int y.u, .int y.k] from rfl] at yes
        rw [show y.d = .tup [.str y.g, .str y.h, y.p, .int y.s, .int y.u, .int y.k] from rfl]
        refine ⟨_, rfl, ?_⟩
        dsimp only [List.map_cons, List.map_nil, wipeE, setE, Tgt.js, List.set_cons_zero, List.set_cons_succ]
        walk_at "x"
        refine x_ite (fun h4 => ?_) (fun h4 => ?_)
        · walk_at "x"
          first | exact ⟨yes, _, rfl⟩ | exact ⟨no, _, rfl⟩
        · walk_at "x"
          first | exact ⟨yes, _, rfl⟩ | exact ⟨no, _, rfl⟩
      rintro acc e ⟨⟨as, rfl, as1, as2⟩, x12, rfl⟩
      rw [List.length_map] at as2
      try dsimp only [List.map_cons, List.map_nil, wipeE, List.set_cons_zero, List.set_cons_succ]
      walk_at "x"
      refine ⟨by omega, fun i acc e => (∃ bs : List Rw, acc = bs.map Rw.d ∧ (∀ r ∈ bs, r ∈ rs) ∧ bs.length ≤ i) ∧ ∃ x12, e = [some (.own o5), some (.f (.tup [.str oo, .tup (ts.map Ti.d), .tup (xs.map Wi.d)])), some (.f (.tup (rs.map Rw.d))), some (.f (.int 5)), none, none, none, none, some (.f (.int at_)), some (.f (.int to)), some (.f (.tup [.str r2.g, .str r2.h, r2.p, .int r2.s, .int r2.u, .int r2.k])), some (.f (.lst (as.map Rw.d))), x12, none, none], ⟨⟨[], rfl, nofun, Nat.le_refl _⟩, _, rfl⟩, ?_, ?_⟩
      · rintro i d acc e hd ⟨⟨bs, rfl, bs1, bs2⟩, x12, rfl⟩
        rw [List.getElem?_map] at hd
        obtain ⟨y, hy, rfl⟩ := Option.map_eq_some_iff.mp hd
        have ym := List.mem_of_getElem? hy
        have yes : ∃ bs' : List Rw, bs.map Rw.d ++ [y.d] = bs'.map Rw.d ∧ (∀ r ∈ bs', r ∈ rs) ∧ bs'.length ≤ i + 1 := ⟨bs ++ [y], by rw [List.map_append]; rfl, fun z hz => by
          rcases List.mem_append.mp hz with hz | hz
          · exact bs1 z hz
          · rw [List.mem_singleton.mp hz]
            exact ym, by rw [List.length_append]; exact Nat.succ_le_succ bs2⟩
        have no : ∃ bs' : List Rw, bs.map Rw.d = bs'.map Rw.d ∧ (∀ r ∈ bs', r ∈ rs) ∧ bs'.length ≤ i + 1 := ⟨bs, rfl, bs1, Nat.le_succ_of_le bs2⟩
        rw [show y.d = .tup [.str y.g, .str y.h, y.p, .int y.s, .int y.u, .int y.k] from rfl] at yes
        rw [show y.d = .tup [.str y.g, .str y.h, y.p, .int y.s, .int y.u, .int y.k] from rfl]
        refine ⟨_, rfl, ?_⟩
        dsimp only [List.map_cons, List.map_nil, wipeE, setE, Tgt.js, List.set_cons_zero, List.set_cons_succ]
        walk_at "x"
        refine x_ite (fun h4 => ?_) (fun h4 => ?_)
        · walk_at "x"
          first | exact ⟨yes, _, rfl⟩ | exact ⟨no, _, rfl⟩
        · walk_at "x"
          first | exact ⟨yes, _, rfl⟩ | exact ⟨no, _, rfl⟩
      rintro acc e ⟨⟨cs, rfl, cs1, cs2⟩, x12, rfl⟩
      rw [List.length_map] at cs2
      try dsimp only [List.map_cons, List.map_nil, wipeE, List.set_cons_zero, List.set_cons_succ]
      walk_at "x"
      rw [show as.map Rw.d ++ [.tup [.str r2.g, .str r2.h, r2.p, .int r2.s, .int r2.u, .int r2.k]] ++ cs.map Rw.d = (as ++ [r2] ++ cs).map Rw.d by rw [List.map_append, List.map_append]; rfl]
      refine q _ o5 (fun z hz => ?_) (by simp only [List.length_append, List.length_singleton]; omega) (u5.mono (by omega))
      rcases List.mem_append.mp hz with hz | hz
      · rcases List.mem_append.mp hz with hz | hz
        · exact hrs z (as1 z hz)
        · rw [List.mem_singleton.mp hz]
          exact hw2
      · exact hrs z (cs1 z hz)
    · walk_at "x"
      refine ix_row t0 (by omega) fun r1 hr1 => ?_
      walk_at "x"
      refine ix_row a0 (by omega) fun r2 hr2 => ?_
      have w1_ := hrs r1 (List.mem_of_getElem? hr1)
      have w2_ := hrs r2 (List.mem_of_getElem? hr2)
      walk_at "x"
      refine ⟨at_, at_.toNat, rs.map Rw.d, rfl, rfl, ixN_in a0 (by rw [List.length_map]; exact a1), ?_⟩
      walk_at "x"
      refine ⟨to, to.toNat, (rs.map Rw.d).set at_.toNat r1.d, rfl, rfl, ixN_in t0 (by rw [List.length_set, List.length_map]; exact t1), ?_⟩
      walk_at "x"
      rw [← List.map_set, ← List.map_set]
      refine q _ o4 (fun z hz => ?_) (by rw [List.length_set, List.length_set]; omega) (u4.mono (by omega))
      rcases List.mem_or_eq_of_mem_set hz with hz | rfl
      · rcases List.mem_or_eq_of_mem_set hz with hz | rfl
        · exact hrs z hz
        · exact w1_
      · exact w2_
    · walk_at "x"
      intro k o5 k0 k1 u5
      obtain rfl | rfl : k = 0 ∨ k = 1 := by omega
      · walk_at "x"
        refine ⟨by omega, fun i acc e => acc = ((rs.take i).map (fun r : Rw => ({ r with u := r.u + 1 } : Rw))).map Rw.d ∧ ∃ x10, e = [some (.own o5), some (.f (.tup [.str oo, .tup (ts.map Ti.d), .tup (xs.map Wi.d)])), some (.f (.tup (rs.map Rw.d))), some (.f (.int 7)), none, none, none, none, some (.f (.int at_)), some (.f (.int to)), x10, none, none, none, some (.f (.int (4 + 0)))], ⟨rfl, _, rfl⟩, ?_, ?_⟩
        · rintro i d acc e hd ⟨rfl, x10, rfl⟩
          rw [List.getElem?_map] at hd
          obtain ⟨y, hy, rfl⟩ := Option.map_eq_some_iff.mp hd
          rw [show y.d = .tup [.str y.g, .str y.h, y.p, .int y.s, .int y.u, .int y.k] from rfl]
          refine ⟨_, rfl, ?_⟩
          dsimp only [List.map_cons, List.map_nil, wipeE, setE, Tgt.js, List.set_cons_zero, List.set_cons_succ]
          walk_at "x"
          refine x_slT (ds' := [.str y.g, .str y.h, y.p, .int y.s]) rfl ?_
          walk_at "x"
          refine x_slT (ds' := [.int y.k]) rfl ?_
          walk_at "x"
          exact ⟨by rw [take_snoc hy, List.map_append, List.map_append]; rfl, _, rfl⟩
        rintro acc e ⟨rfl, x10, rfl⟩
        rw [List.length_map, List.take_length]
        try dsimp only [List.map_cons, List.map_nil, wipeE, List.set_cons_zero, List.set_cons_succ]
        walk_at "x"
        refine q _ o5 (fun z hz => ?_) (by rw [List.length_map]; omega) (u5.mono (by omega))
        obtain ⟨y, hy, rfl⟩ := List.mem_map.mp hz
        have w := hrs y hy
        exact ⟨w.g, w.gl, w.h, w.hl, w.p⟩
      · walk_at "x"
        refine ⟨by omega, fun i acc e => acc = ((rs.take i).map (fun r : Rw => ({ r with k := r.k + 1 } : Rw))).map Rw.d ∧ ∃ x10, e = [some (.own o5), some (.f (.tup [.str oo, .tup (ts.map Ti.d), .tup (xs.map Wi.d)])), some (.f (.tup (rs.map Rw.d))), some (.f (.int 7)), none, none, none, none, some (.f (.int at_)), some (.f (.int to)), x10, none, none, none, some (.f (.int (4 + 1)))], ⟨rfl, _, rfl⟩, ?_, ?_⟩
        · rintro i d acc e hd ⟨rfl, x10, rfl⟩
          rw [List.getElem?_map] at hd
          obtain ⟨y, hy, rfl⟩ := Option.map_eq_some_iff.mp hd
          rw [show y.d = .tup [.str y.g, .str y.h, y.p, .int y.s, .int y.u, .int y.k] from rfl]
          refine ⟨_, rfl, ?_⟩
          dsimp only [List.map_cons, List.map_nil, wipeE, setE, Tgt.js, List.set_cons_zero, List.set_cons_succ]
          walk_at "x"
          refine x_slT (ds' := [.str y.g, .str y.h, y.p, .int y.s, .int y.u]) rfl ?_
          walk_at "x"
          refine x_slT (ds' := []) rfl ?_
          walk_at "x"
          exact ⟨by rw [take_snoc hy, List.map_append, List.map_append]; rfl, _, rfl⟩
        rintro acc e ⟨rfl, x10, rfl⟩
        rw [List.length_map, List.take_length]
        try dsimp only [List.map_cons, List.map_nil, wipeE, List.set_cons_zero, List.set_cons_succ]
        walk_at "x"
        refine q _ o5 (fun z hz => ?_) (by rw [List.length_map]; omega) (u5.mono (by omega))
        obtain ⟨y, hy, rfl⟩ := List.mem_map.mp hz
        have w := hrs y hy
        exact ⟨w.g, w.gl, w.h, w.hl, w.p⟩

end
end K75

namespace K75
open PySem PySem.Spec PyProof.Rows L2 Lk Evl Fx



local macro_rules | `(tactic| walk_at "sz") => `(tactic| first
  | exact Nat.le_of_ble_eq_true rfl
  | assumption
  | exact small_sz (Nat.le_of_ble_eq_true rfl)
  | (simp only [List.length_cons, List.length_nil, List.length_map, List.length_append]; first | omega | exact small_sz (by omega)))
local macro_rules | `(tactic| walk_at "x1") => `(tactic| first
  | with_reducible refine x_seq ?_
  | (with_reducible show wVar _ _ _); first | refine x_varF rfl ?_ | refine x_varO rfl ?_ | refine x_varV rfl ?_
  | with_reducible refine x_c ?_
  | with_reducible refine x_exf ?_
  | with_reducible refine x_excd ?_
  | (with_reducible show ∃ d1, Sl.cd (Sl.vw _) = some d1 ∧ _); refine x_excV rfl ?_
  | (with_reducible show ∃ d1, Sl.cd (Sl.own _) = some d1 ∧ _); refine x_excO rfl ?_
  | with_reducible refine x_binP ?_
  | with_reducible refine x_bin ?_
  | with_reducible refine x_adC ?_
  | with_reducible refine x_adN ?_
  | with_reducible refine x_lst ?_
  | with_reducible refine x_tup ?_
  | with_reducible refine x_lstO ?_
  | (with_reducible refine x_and (p := _ ≤ sizeLine) ?h ?_); (case h => walk_at "sz")
  | with_reducible refine x_callF ?_
  | with_reducible refine x_callL ?_
  | with_reducible refine x_listO ?_
  | (with_reducible show wCallU _ _ _ _ _); refine x_callU rfl ?_
  | with_reducible refine x_callV ?_
  | with_reducible refine x_join ?_
  | with_reducible refine x_waD ?_
  | with_reducible refine x_lc ?_
  | with_reducible refine x_lc2 ?_
  | with_reducible refine x_lenSets ?_
  | (with_reducible show wApp _ _ _ _); refine x_app rfl ?_
  | (with_reducible show wBinV _ _ _ _ _); refine x_binV rfl ?_
  | (with_reducible show wPopD _ _ _ _); refine x_popD rfl ?_
  | (with_reducible show wCatV _ _ _ _); refine x_catV rfl ?_
  | with_reducible refine x_slN2 ?_
  | with_reducible refine x_sortedSets ?_
  | with_reducible refine x_tplL ?_
  | with_reducible refine x_tplT ?_
  | with_reducible refine x_isB ?_
  | with_reducible refine x_r1 ?_
  | with_reducible refine x_r2 ?_
  | (with_reducible refine x_r1e ?h0 ?h1 ?_); (case h0 => omega); (case h1 => omega)
  | with_reducible refine x_iL ?_
  | with_reducible refine x_iT ?_
  | with_reducible refine x_iS ?_
  | with_reducible refine x_iE ?_
  | with_reducible refine x_iEe ?_
  | with_reducible refine x_yes ?_
  | with_reducible refine x_for ?_
  | (with_reducible show wLot _ [D.int _] _); (refine' x_lot (by assumption) ?h1 ?h2 ?h3 ?_); (case h1 => omega); (case h2 => first | decide | omega); (case h3 => first | decide | omega)
  | (with_reducible show ∃ o, _ = some (some (Sl.own o)) ∧ _); refine x_exO rfl ?_
  | with_reducible refine x_exo ?_
  | with_reducible refine x_ret ?_
  | with_reducible refine x_set ?_
  | with_reducible refine x_fin ?_
  | with_reducible refine x_fino ?_
  | (with_reducible refine x_and (p := _ < List.length _) ?h ?_); (case h => exact Nat.le_of_ble_eq_true rfl); (try dsimp only [List.set_cons_succ, List.set_cons_zero])
  | with_reducible refine x_next ?_
  | with_reducible refine x_retN ?_
  | with_reducible refine x_drop ?_
  | with_reducible refine x_asg ?_
  | (with_reducible refine x_gtp ?h ?_); (case h => rfl)
  | with_reducible refine x_gcons ?_
  | with_reducible refine x_gnil ?_
  | (with_reducible refine x_gn ?h ?_); (case h => exact Nat.le_of_ble_eq_true rfl); (try dsimp only [List.set_cons_succ, List.set_cons_zero])
  | with_reducible refine x_ifS ?_
  | with_reducible refine x_if ?_
  | with_reducible refine x_itT ?_
  | with_reducible refine x_itF ?_
  | with_reducible refine x_iteN ?_
  | with_reducible refine x_tru ?_
  | with_reducible refine x_tB ?_
  | with_reducible refine x_dtB ?_
  | with_reducible refine x_dtN ?_
  | with_reducible refine x_exb ?_
  | with_reducible refine x_exdb ?_
  | with_reducible refine x_tand ?_
  | with_reducible refine x_tor ?_
  | with_reducible refine x_tnot ?_
  | with_reducible refine x_and2 ?_
  | with_reducible refine x_or2 ?_
  | with_reducible refine x_not2 ?_
  | with_reducible refine x_chain ?_
  | with_reducible refine x_sub ?_
  | with_reducible refine x_addI ?_
  | (with_reducible refine x_addS ?h ?_); (case h => walk_at "sz")
  | (with_reducible refine x_addL ?h ?_); (case h => walk_at "sz")
  | (with_reducible refine x_addT ?h ?_); (case h => walk_at "sz")
  | with_reducible refine x_lt ?_
  | with_reducible refine x_le ?_
  | with_reducible refine x_gt ?_
  | with_reducible refine x_ge ?_
  | with_reducible refine x_ltS ?_
  | with_reducible refine x_eqI ?_
  | with_reducible refine x_neI ?_
  | with_reducible refine x_allSg ?_
  | with_reducible refine x_m0 ?_
  | with_reducible refine x_lstT ?_
  | with_reducible refine x_lstL ?_
  | with_reducible refine x_strB ?_
  | with_reducible refine x_strN ?_
  | with_reducible refine x_strS ?_
  | with_reducible refine x_isT ?_
  | with_reducible refine x_isI ?_
  | with_reducible refine x_neg ?_
  | with_reducible refine x_un ?_
  | (with_reducible refine x_pow ?h ?_); (case h => exact ⟨by decide, by decide +kernel⟩)
  | (with_reducible refine x_mod ?h ?_); (case h => first | decide | omega)
  | (with_reducible refine x_mul ?h ?_); (case h => exact mul_ok (by first | decide | omega) (by first | decide | omega))
  | (with_reducible refine x_div ?h ?_); (case h => exact div_ok (by first | decide | omega) (by first | decide | omega))
  | with_reducible refine x_ipA ?_
  | (with_reducible show wAugL _ _ _ _ _ _); refine x_augL rfl ?_
  | (with_reducible show wAug _ _ _ _ _); refine x_aug rfl ?_
  | (with_reducible show ∃ k' ds d, Sl.f (D.int _) = Sl.f (D.int k') ∧ _); refine x_augL1 rfl (by decide) rfl ?_
  | (with_reducible show ∃ k' j ds, Sl.f (D.int _) = Sl.f (D.int k') ∧ _ = some (some (Sl.own (O.lst ds))) ∧ ixN _ k' = some j ∧ _); refine x_setL1 rfl rfl ?_; (try dsimp only [List.set_cons_succ, List.set_cons_zero])
  | (with_reducible show ∃ ds j, _ = some (some (Sl.own (O.lst ds))) ∧ ixN _ _ = some j ∧ _); refine x_augL2 rfl rfl ?_; (try dsimp only [List.set_cons_succ, List.set_cons_zero])
  | (with_reducible show gSetL _ _ _ _ _); refine x_setL rfl ?_
  | (with_reducible show dIx (D.lst _) (D.int _) _); refine x_ixL rfl ?_
  | (with_reducible show dIx (D.tup _) (D.int _) _); refine x_ixT rfl ?_
  | with_reducible refine x_cb ?_
  | (with_reducible show wCB1 _ _ _ _); refine x_cb1 rfl rfl ?_
  | with_reducible refine x_fm ?_
  | with_reducible refine x_exl ?_
  | with_reducible refine x_ext ?_
  | with_reducible refine x_exs ?_
  | with_reducible refine x_exi ?_
  | with_reducible refine x_sl ?_
  | with_reducible refine x_slN ?_
  | with_reducible refine x_slS ?_
  | with_reducible refine x_frz ?_
  | with_reducible refine x_frL ?_
  | with_reducible refine x_revT ?_
  | with_reducible refine x_revL ?_
  | with_reducible refine x_splitO ?_
  | (with_reducible show wSlO _ _ _ _ _); refine x_slO rfl ?_
  | (with_reducible show ∃ ds2, _ = some (some (Sl.own (O.lst ds2))) ∧ _); refine x_exOl rfl ?_
  | with_reducible refine x_dictO ?_
  | with_reducible refine x_psC ?_
  | with_reducible refine x_psN ?_
  | with_reducible refine x_get ?_
  | (with_reducible show gSetSl _ _ _ _ _ _); refine x_setSl rfl ?_
  | with_reducible refine x_split ?_
  | with_reducible refine x_isN1 ?_
  | with_reducible refine x_isN0 rfl ?_
  | with_reducible refine x_iZ ?_
  | with_reducible refine x_zT ?_
  | with_reducible refine x_zL ?_
  | with_reducible refine x_stp ?_
  | with_reducible refine x_js ?_
  | with_reducible refine x_jsC ?_
  | with_reducible refine x_jsN ?_
  | with_reducible refine x_fmt ?_
  | with_reducible refine x_callFX ?_
  | (with_reducible refine x_glp ?h ?_); (case h => rfl)
  | with_reducible refine x_raiseR ?_
  | with_reducible refine x_row ?_
  | with_reducible refine x_lenL ?_
  | with_reducible refine x_lenT ?_
  | with_reducible refine x_lenD ?_
  | (with_reducible refine x_lenS ?h ?_); (case h => walk_at "sz")
  | with_reducible refine x_max ?_
  | with_reducible refine x_min ?_
  | with_reducible refine x_intI ?_
  | with_reducible refine x_intB ?_
  | (with_reducible refine x_isInt ?h ?_); (case h => first | assumption | exact part_ty (by assumption) | (intro _ hh; cases hh; done))
  | (with_reducible refine x_isBl ?h ?_); (case h => first | assumption | exact part_ty (by assumption) | (intro _ hh; cases hh; done))
  | (with_reducible refine x_isStr ?h ?_); (case h => first | assumption | exact part_ty (by assumption) | (intro _ hh; cases hh; done))
  | (with_reducible refine x_isTup ?h ?_); (case h => first | assumption | exact part_ty (by assumption) | (intro _ hh; cases hh; done))
  | (with_reducible refine x_isLst ?h ?_); (case h => first | assumption | exact part_ty (by assumption) | (intro _ hh; cases hh; done))
  | (with_reducible refine x_isDic ?h ?_); (case h => first | assumption | exact part_ty (by assumption) | (intro _ hh; cases hh; done))
  | (with_reducible refine x_itTe ?e ?_); (case e => rfl)
  | (with_reducible refine x_itFe ?e ?_); (case e => rfl)
  | with_reducible refine x_dnewO ?_
  | with_reducible refine x_dput ?_
  | with_reducible refine x_dix ?_
  | with_reducible refine x_sortedD ?_
  | with_reducible refine x_star ?_
  | with_reducible refine x_starT ?_
  | with_reducible refine x_frzD ?_
  | with_reducible refine x_sw ?_
  | with_reducible refine x_cnt ?_
  | with_reducible refine x_waC ?_
  | with_reducible refine x_waN ?_
  | with_reducible refine x_lenDD ?_
  | with_reducible refine x_allX ?_
  | (with_reducible show wFz _ _ _ _); refine x_fz rfl ?_
  | (with_reducible show wFzS _ _ _ _); refine x_fzS rfl ?_
  | (with_reducible show wFzO _ _ _ _); refine x_fzO rfl ?_
  | (with_reducible show wiK _ _ _); refine x_iK rfl ?_
  | (with_reducible show wiIt _ _ _); refine x_iIt rfl ?_
  | with_reducible refine x_iE1 ?_
  | with_reducible refine x_forR ?_
  | (with_reducible show wDIxV _ _ _ _); refine x_dixV rfl (cd_dicO _) ?_
  | (with_reducible show wDPop _ _ _ _); refine x_dpop rfl ?_
  | with_reducible refine x_pickO ?_
  | (with_reducible show wExt _ _ _ _); refine x_extO rfl ?_
  | with_reducible refine x_sortedR ?_
  | with_reducible refine x_sortedL ?_
  | with_reducible refine x_ixSt ?_
  | (with_reducible show wiVal _ _ _); refine x_iVal rfl ?_
  | with_reducible refine x_dictP ?_
  | with_reducible refine x_dictZip ?_
  | with_reducible refine x_revS ?_
  | with_reducible refine x_par ?_
  | (with_reducible show wIsiV _ _ _ _ _); refine x_isiV rfl ?_
  | ((with_reducible show _ ∧ _); refine And.intro (Nat.le_of_ble_eq_true rfl) ?_))
local macro_rules | `(tactic| walk_at "x") => `(tactic| repeat (walk_at "x1"))

section
variable {P : Program} {w : World} {K : PySem.W.Frag} {mg : Str → Option Value} {base : Heap} {tabs : List Addr}
theorem fn_law (T : Txt K mg) (c_is_plan : Cal P w K mg base 7 "is_plan" (spW K tabs (liftF wPlan))) (c__law_cell_at : Cal P w K mg base 1 "_law_cell_at" (spW K tabs (liftF wCellAt))) (c__law_pool : Cal P w K mg base 1 "_law_pool" (spW K tabs (liftF wUrn)))
    (c__law_draw : Cal P w K mg base 1 "_law_draw" (spW K tabs (liftU wLot))) (c__law_trust : Cal P w K mg base 3 "_law_trust" (spW K tabs (liftU wTrustG))) (c__law_drawn_rows : Cal P w K mg base 5 "_law_drawn_rows" (spW K tabs (liftU wDrawn))) (c__law_truth : Cal P w K mg base 1 "_law_truth" (spW K tabs (liftF wLTruth)))
    (c__law_bent : Cal P w K mg base 3 "_law_bent" (spW K tabs (liftU wBent))) (c__law_forms : Cal P w K mg base 2 "_law_forms" (spW K tabs (liftF wLForms))) (c__law_is_plan : Cal P w K mg base 2 "_law_is_plan" (spW K tabs (liftF wLPlan)))
    {f : Addr} {fd : FuncData} (F : Fun K "law" "law" s_law f fd) : FnOk P w K mg base CX0 8 f fd ["script"] (spW K tabs (liftF Fx.wLaw)) := by
  refine fx_fnF F sc_law (fun ds Q ⟨ns, h, _⟩ => by rw [h]; rfl) fun cdv A outer s H E TT P0 σ0 hcd hr => ⟨_, (gss_cons (gs_for PassesOwn.never rfl (gi_r1 rfl T.z_range (GD.ga (gd_cons (ge_cbB (cax_max2 rfl) (by rfl) T.z_max (by decide +kernel) (gd_cons (GE.of_pure gp_int) (gd_cons (ge_cbB (cax_min2 rfl) (by rfl) T.z_min (by decide +kernel) (gd_cons (GE.of_pure gp_int) (gd_cons (ge_cbB1 cax_len (by rfl) T.z_len (by decide +kernel) (pv 0)) gd_nil))) gd_nil))) gd_nil))) (gg_name (pg_name (i := 1) sc_law.nd rfl (Or.inl rfl)) rfl)
      (gss_cons (gs_setE (i := 2) sc_law.nd rfl (Or.inl rfl) (ge_callF c__law_pool hr (by decide) rfl rfl rfl mono__law_pool (gd_cons (ge_callF c__law_cell_at hr (by decide) rfl rfl rfl mono__law_cell_at (gd_cons (GE.of_pure (gp_var (pv 0))) (gd_cons (GE.of_pure (gp_var (pv 1))) gd_nil))) (gd_cons (GE.of_pure (gp_var (pv 1))) gd_nil))))
      (gss_cons (gs_setE (i := 3) sc_law.nd rfl (Or.inl rfl) (ge_callU c__law_trust hr (by decide) rfl rfl rfl mono__law_trust (pv 2) (gd_cons (GE.of_pure gp_int) gd_nil)))
      (gss_cons (gs_setE (i := 4) sc_law.nd rfl (Or.inl rfl) (ge_callU c__law_drawn_rows hr (by decide) rfl rfl rfl mono__law_drawn_rows (pv 2) (gd_cons (GE.of_pure (gp_var (pv 3))) gd_nil)))
      (gss_cons (gs_if (GW.gt (gw_and (gt_cmp (opx_ne hr.units) (GE.of_pure (gp_var (pv 4))) (ge_tupD gd_nil) (nomark _)) (gw_and1 (gt_not (gt_tru (ge_callF c__law_truth hr (by decide) rfl rfl rfl mono__law_truth (gd_cons (ge_callF c_is_plan hr (by decide) rfl rfl rfl mono_is_plan (gd_cons (GE.of_pure (gp_var (pv 3))) (gd_cons (GE.of_pure (gp_var (pv 4))) gd_nil))) (gd_cons (GE.of_pure gp_bl) gd_nil))))))))
      (gss_one (gs_ret (GE.of_pure gp_bl)))
      gss_nil)
      (gss_one (gs_for PassesOwn.never rfl (gi_r1 rfl T.z_range (GD.ga (gd_cons (GE.of_pure gp_int) gd_nil))) (gg_name (pg_name (i := 5) sc_law.nd rfl (Or.inl rfl)) rfl)
      (gss_cons (gs_setE (i := 6) sc_law.nd rfl (Or.inl rfl) (GE.of_pure (gp_var (pv 4))))
      (gss_cons (gs_for PassesOwn.never rfl (gi_r1 rfl T.z_range (GD.ga (gd_cons (ge_callU c__law_draw hr (by decide) rfl rfl rfl mono__law_draw (pv 2) (gd_cons (GE.of_pure gp_int) gd_nil)) gd_nil))) (gg_name (pg_name (i := 7) sc_law.nd rfl (Or.inl rfl)) rfl)
      (gss_one (gs_setE (i := 6) sc_law.nd rfl (Or.inl rfl) (ge_callU c__law_bent hr (by decide) rfl rfl rfl mono__law_bent (pv 2) (gd_cons (GE.of_pure (gp_var (pv 3))) (gd_cons (GE.of_pure (gp_var (pv 6))) gd_nil))))))
      (gss_cons (gs_setE (i := 8) sc_law.nd rfl (Or.inl rfl) (ge_and (ge_callF c__law_forms hr (by decide) rfl rfl rfl mono__law_forms (gd_cons (GE.of_pure (gp_var (pv 6))) gd_nil)) (ge_one (ge_callF c__law_is_plan hr (by decide) rfl rfl rfl mono__law_is_plan (gd_cons (GE.of_pure (gp_var (pv 3))) (gd_cons (GE.of_pure (gp_var (pv 6))) gd_nil))))))
      (gss_one (gs_if (GW.gt (gw_or (gt_not (gt_tru (ge_callF c__law_truth hr (by decide) rfl rfl rfl mono__law_truth (gd_cons (ge_callF c_is_plan hr (by decide) rfl rfl rfl mono_is_plan (gd_cons (GE.of_pure (gp_var (pv 3))) (gd_cons (GE.of_pure (gp_var (pv 6))) gd_nil))) (gd_cons (GE.of_pure (gp_var (pv 8))) gd_nil))))) (gw_or1 (gt_not (gt_tru (ge_callF c__law_truth hr (by decide) rfl rfl rfl mono__law_truth (gd_cons (ge_callF c_is_plan hr (by decide) rfl rfl rfl mono_is_plan (gd_cons (GE.of_pure (gp_var (pv 3))) (gd_cons (GE.of_pure (gp_var (pv 6))) gd_nil))) (gd_cons (GE.of_pure (gp_var (pv 8))) gd_nil))))))))
      (gss_one (gs_ret (GE.of_pure gp_bl)))
      gss_nil))))))))))))
      (gss_one (gs_ret (GE.of_pure gp_bl)))), fun ds Q ⟨ns, h, hn, q⟩ => ?_⟩
  subst h
  refine x_start (e := [some (.f (.lst (ns.map D.int))), none, none, none, none, none, none, none, none]) rfl ?_
  walk_at "x"
  have hm : ∀ m : Int, (if (if m < 6 then m else 6) > 1 then (if m < 6 then m else 6) else 1) ≤ 6 := by
    intro m
    split <;> split <;> omega
  have hm := hm (ns.map D.int).length
  generalize (if (if (((ns.map D.int).length : Nat) : Int) < 6 then (((ns.map D.int).length : Nat) : Int) else 6) > 1 then (if (((ns.map D.int).length : Nat) : Int) < 6 then (((ns.map D.int).length : Nat) : Int) else 6) else 1) = many at hm
  refine ⟨fun i e => ∃ x1 x2 x3 x4 x5 x6 x7 x8, e = [some (.f (.lst (ns.map D.int))), x1, x2, x3, x4, x5, x6, x7, x8], ⟨none, none, none, none, none, none, none, none, rfl⟩, ?_, ?_⟩
  · rintro i d e hd ⟨x1, x2, x3, x4, x5, x6, x7, x8, rfl⟩
    obtain ⟨hi, rfl⟩ := rng_at hd
    walk_at "x"
    refine ⟨ns, _, rfl, hn, by omega, fun c => ?_⟩
    walk_at "x"
    refine ⟨c, _, rfl, by omega, by omega, fun o u => ?_⟩
    walk_at "x"
    refine ⟨0, 5, rfl, u, by omega, by omega, by omega, fun oo ts xs nm o1 tr am nl _ _ u1 => ?_⟩
    walk_at "x"
    refine ⟨_, oo, ts, xs, nm, rfl, tr, am, nl, u1, by omega, fun rs o2 u2 ⟨gw, gl, gp⟩ => ?_⟩
    walk_at "x"
    refine x_neD (okPy_rowsT gw) (by decide +kernel) ?_
    rw [nil_tup]
    cases hz : (rs.map Rw.d).isEmpty with
    | true =>
      walk_at "x"
      refine ⟨fun j e => ∃ (o' : O) (x5 x6 x7 x8 : Option Sl), Un o' (1100 + 100 * j) ∧ e = [some (.f (.lst (ns.map D.int))), some (.f (.int (i : Nat))), some (.own o'), some (.f (trustD oo ts xs)), some (.f (.tup (rs.map Rw.d))), x5, x6, x7, x8], ⟨o2, _, _, _, _, u2.mono (by omega), rfl⟩, ?_, ?_⟩
      · rintro j d e hd2 ⟨o', x5, x6, x7, x8, u', rfl⟩
        obtain ⟨hj, rfl⟩ := rng_at hd2
        have hj : j < 14 := hj
        walk_at "x"
        intro L o3 l0 l1 u3
        walk_at "x"
        refine ⟨fun l e => ∃ (o' : O) (rs' : List Rw) (x7 : Option Sl), Un o' (1100 + 100 * j + 1 + 30 * l) ∧ (∀ r ∈ rs', r.W) ∧ rs'.length + 1 ≤ 6 * 2 ^ l ∧ e = [some (.f (.lst (ns.map D.int))), some (.f (.int (i : Nat))), some (.own o'), some (.f (trustD oo ts xs)), some (.f (.tup (rs.map Rw.d))), some (.f (.int (j : Nat))), some (.f (.tup (rs'.map Rw.d))), x7, x8], ⟨o3, rs, _, u3.mono (by omega), gw, by simp; omega, rfl⟩, ?_, ?_⟩
        · rintro l d e hd3 ⟨o4, rs', x7, u4, w', len, rfl⟩
          obtain ⟨hl, rfl⟩ := rng_at hd3
          have hl3 : l < 3 := by omega
          have l23 : rs'.length ≤ 23 := by
            obtain rfl | rfl | rfl : l = 0 ∨ l = 1 ∨ l = 2 := by omega
            all_goals (simp at len; omega)
          walk_at "x"
          refine ⟨_, oo, ts, xs, rs', rfl, tr, w', l23, u4, by omega, fun rs2 o5 w2 len2 u5 => ?_⟩
          walk_at "x"
          exact ⟨o5, rs2, _, u5.mono (by omega), w2, by rw [Nat.pow_succ]; omega, rfl⟩
        rintro e ⟨o4, rs', x7, u4, w', len, rfl⟩
        rw [List.length_map, List.length_range] at u4 len
        have l47 : rs'.length ≤ 47 := by
          obtain h | h | h | h : L.toNat = 0 ∨ L.toNat = 1 ∨ L.toNat = 2 ∨ L.toNat = 3 := by omega
          all_goals (rw [h] at len; simp at len; omega)
        walk_at "x"
        refine ⟨rs', rfl, w', ?_⟩
        cases hf : rs'.all formB with
        | false =>
          walk_at "x"
          refine ⟨oo, ts, xs, rs', rfl, tr, w', by omega, ?_⟩
          rw [plan_law, hf, Bool.false_and]
          walk_at "x"
          refine ⟨_, _, rfl, ?_⟩
          rw [beq_self_eq_true]
          walk_at "x"
          refine ⟨oo, ts, xs, rs', rfl, tr, w', by omega, ?_⟩
          rw [plan_law, hf, Bool.false_and]
          walk_at "x"
          refine ⟨_, _, rfl, ?_⟩
          rw [beq_self_eq_true]
          walk_at "x"
          exact ⟨o4, _, _, _, _, u4.mono (by omega), rfl⟩
        | true =>
          walk_at "x"
          refine ⟨oo, ts, xs, rs', rfl, tr, w', by omega, ?_⟩
          generalize hlp : lplanV oo ts xs rs' = lp
          walk_at "x"
          refine ⟨oo, ts, xs, rs', rfl, tr, w', by omega, ?_⟩
          rw [plan_law, hf, Bool.true_and, hlp]
          walk_at "x"
          refine ⟨_, _, rfl, ?_⟩
          rw [beq_self_eq_true]
          walk_at "x"
          refine ⟨oo, ts, xs, rs', rfl, tr, w', by omega, ?_⟩
          rw [plan_law, hf, Bool.true_and, hlp]
          walk_at "x"
          refine ⟨_, _, rfl, ?_⟩
          rw [beq_self_eq_true]
          walk_at "x"
          exact ⟨o4, _, _, _, _, u4.mono (by omega), rfl⟩
      rintro e ⟨o', x5, x6, x7, x8, u', rfl⟩
      walk_at "x"
      exact ⟨_, _, _, _, _, _, _, _, rfl⟩
    | false =>
      have gp : planV oo ts xs rs = true := gp.resolve_left fun e => by rw [e] at hz; cases hz
      walk_at "x"
      refine ⟨oo, ts, xs, rs, rfl, tr, gw, by omega, ?_⟩
      rw [gp]
      walk_at "x"
      refine ⟨true, true, rfl, ?_⟩
      walk_at "x"
      refine ⟨fun j e => ∃ (o' : O) (x5 x6 x7 x8 : Option Sl), Un o' (1100 + 100 * j) ∧ e = [some (.f (.lst (ns.map D.int))), some (.f (.int (i : Nat))), some (.own o'), some (.f (trustD oo ts xs)), some (.f (.tup (rs.map Rw.d))), x5, x6, x7, x8], ⟨o2, _, _, _, _, u2.mono (by omega), rfl⟩, ?_, ?_⟩
      · rintro j d e hd2 ⟨o', x5, x6, x7, x8, u', rfl⟩
        obtain ⟨hj, rfl⟩ := rng_at hd2
        have hj : j < 14 := hj
        walk_at "x"
        intro L o3 l0 l1 u3
        walk_at "x"
        refine ⟨fun l e => ∃ (o' : O) (rs' : List Rw) (x7 : Option Sl), Un o' (1100 + 100 * j + 1 + 30 * l) ∧ (∀ r ∈ rs', r.W) ∧ rs'.length + 1 ≤ 6 * 2 ^ l ∧ e = [some (.f (.lst (ns.map D.int))), some (.f (.int (i : Nat))), some (.own o'), some (.f (trustD oo ts xs)), some (.f (.tup (rs.map Rw.d))), some (.f (.int (j : Nat))), some (.f (.tup (rs'.map Rw.d))), x7, x8], ⟨o3, rs, _, u3.mono (by omega), gw, by simp; omega, rfl⟩, ?_, ?_⟩
        · rintro l d e hd3 ⟨o4, rs', x7, u4, w', len, rfl⟩
          obtain ⟨hl, rfl⟩ := rng_at hd3
          have hl3 : l < 3 := by omega
          have l23 : rs'.length ≤ 23 := by
            obtain rfl | rfl | rfl : l = 0 ∨ l = 1 ∨ l = 2 := by omega
            all_goals (simp at len; omega)
          walk_at "x"
          refine ⟨_, oo, ts, xs, rs', rfl, tr, w', l23, u4, by omega, fun rs2 o5 w2 len2 u5 => ?_⟩
          walk_at "x"
          exact ⟨o5, rs2, _, u5.mono (by omega), w2, by rw [Nat.pow_succ]; omega, rfl⟩
        rintro e ⟨o4, rs', x7, u4, w', len, rfl⟩
        rw [List.length_map, List.length_range] at u4 len
        have l47 : rs'.length ≤ 47 := by
          obtain h | h | h | h : L.toNat = 0 ∨ L.toNat = 1 ∨ L.toNat = 2 ∨ L.toNat = 3 := by omega
          all_goals (rw [h] at len; simp at len; omega)
        walk_at "x"
        refine ⟨rs', rfl, w', ?_⟩
        cases hf : rs'.all formB with
        | false =>
          walk_at "x"
          refine ⟨oo, ts, xs, rs', rfl, tr, w', by omega, ?_⟩
          rw [plan_law, hf, Bool.false_and]
          walk_at "x"
          refine ⟨_, _, rfl, ?_⟩
          rw [beq_self_eq_true]
          walk_at "x"
          refine ⟨oo, ts, xs, rs', rfl, tr, w', by omega, ?_⟩
          rw [plan_law, hf, Bool.false_and]
          walk_at "x"
          refine ⟨_, _, rfl, ?_⟩
          rw [beq_self_eq_true]
          walk_at "x"
          exact ⟨o4, _, _, _, _, u4.mono (by omega), rfl⟩
        | true =>
          walk_at "x"
          refine ⟨oo, ts, xs, rs', rfl, tr, w', by omega, ?_⟩
          generalize hlp : lplanV oo ts xs rs' = lp
          walk_at "x"
          refine ⟨oo, ts, xs, rs', rfl, tr, w', by omega, ?_⟩
          rw [plan_law, hf, Bool.true_and, hlp]
          walk_at "x"
          refine ⟨_, _, rfl, ?_⟩
          rw [beq_self_eq_true]
          walk_at "x"
          refine ⟨oo, ts, xs, rs', rfl, tr, w', by omega, ?_⟩
          rw [plan_law, hf, Bool.true_and, hlp]
          walk_at "x"
          refine ⟨_, _, rfl, ?_⟩
          rw [beq_self_eq_true]
          walk_at "x"
          exact ⟨o4, _, _, _, _, u4.mono (by omega), rfl⟩
      rintro e ⟨o', x5, x6, x7, x8, u', rfl⟩
      walk_at "x"
      exact ⟨_, _, _, _, _, _, _, _, rfl⟩
  rintro e ⟨x1, x2, x3, x4, x5, x6, x7, x8, rfl⟩
  walk_at "x"
  exact q

end
end K75

namespace K75
open PySem PySem.Spec PyProof.Rows L2 Lk Evl Fx



section
theorem glue {l : PySem.W.OpenLaw} {w : World} {K : PySem.W.Frag} {h : Heap} {mg : Str → Option Value} {fa c1 c2 c3 P1 P2 P3 : Addr} {fd : FuncData} (T : Txt K mg)
    (A1 : At K mg "is_whole" s_is_whole ["thing"]) (A2 : At K mg "is_between" s_is_between ["thing", "least", "most"]) (A3 : At K mg "is_moment" s_is_moment ["thing"]) (A4 : At K mg "is_span" s_is_span ["since", "until"]) (A5 : AtC K mg "is_name" s_is_name ["thing"] c1) (A6 : AtC K mg "is_deeds" s_is_deeds ["thing"] c2) (A7 : At K mg "is_leave" s_is_leave ["thing"]) (A8 : AtC K mg "lies_within" s_lies_within ["leave", "other"] c3) (A9 : At K mg "is_plan" s_is_plan ["trust", "thing"]) (A10 : At K mg "_is_planned" s__is_planned ["thing"]) (A11 : At K mg "_made_leave" s__made_leave ["row"]) (A12 : At K mg "_has_tie" s__has_tie ["trust", "row"]) (A13 : At K mg "_has_giver" s__has_giver ["trust", "plan", "row"]) (A14 : At K mg "_is_granted" s__is_granted ["plan", "wish"]) (A15 : At K mg "_law_cell_at" s__law_cell_at ["script", "k"]) (A16 : At K mg "_law_pool" s__law_pool ["cell", "place"]) (A17 : At K mg "_law_draw" s__law_draw ["pool", "many"]) (A18 : At K mg "_law_names" s__law_names ["pool", "many"]) (A19 : At K mg "_law_span" s__law_span ["pool", "way"]) (A20 : At K mg "_law_trust" s__law_trust ["pool", "most"]) (A21 : At K mg "_law_others" s__law_others ["trust"]) (A22 : At K mg "_law_lies" s__law_lies ["trust", "giver", "holder", "since", "until"]) (A23 : At K mg "_law_up" s__law_up ["case", "actor"]) (A24 : At K mg "_law_below" s__law_below ["trust", "case", "actor"]) (A25 : At K mg "_law_fits" s__law_fits ["trust", "case"]) (A26 : At K mg "_law_next" s__law_next ["trust", "case"]) (A27 : At K mg "_law_tied" s__law_tied ["trust", "actor"]) (A28 : At K mg "_law_case" s__law_case ["pool", "trust"]) (A29 : At K mg "_law_passed" s__law_passed ["case", "actor"]) (A30 : At K mg "_law_rows" s__law_rows ["trust", "case"]) (A31 : At K mg "_law_drawn_rows" s__law_drawn_rows ["pool", "trust"]) (A32 : At K mg "_law_within" s__law_within ["row", "other"]) (A33 : At K mg "_law_is_plan" s__law_is_plan ["trust", "rows"]) (A34 : At K mg "_law_is_name" s__law_is_name ["thing"]) (A35 : At K mg "_law_is_span" s__law_is_span ["since", "until"]) (A36 : At K mg "_law_is_deeds" s__law_is_deeds ["deeds"]) (A37 : At K mg "_law_forms" s__law_forms ["rows"]) (A38 : At K mg "_law_truth" s__law_truth ["found", "due"]) (A39 : At K mg "_law_part" s__law_part ["pool", "trust", "row"]) (A40 : At K mg "_law_bent" s__law_bent ["pool", "trust", "rows"])
    (t1 : h.get? P1 = some { cls := .none, data := .fields #[] } ∧ PySem.W.CodeHd h c1 P1) (n1 : K.lookup P1 = none) (t2 : h.get? P2 = some { cls := .none, data := .fields #[] } ∧ PySem.W.CodeHd h c2 P2) (n2 : K.lookup P2 = none) (t3 : h.get? P3 = some { cls := .none, data := .fields #[] } ∧ PySem.W.CodeHd h c3 P3) (n3 : K.lookup P3 = none)
    (F : Fun K "law" "law" s_law fa fd) (hb : ∀ (s : Shared) (u : Value), BindsTo s fd ⟨[u], []⟩ [("script", u)]) : LawAt l w K 8 63 "script" mg h fa := by
  refine law_at (cs := [(c1, P1), (c2, P2), (c3, P3)]) ?_ ?_ ?_ hb fun base _ _ TB => ?_
  · intro p hp
    simp only [List.mem_cons, List.not_mem_nil, or_false] at hp
    rcases hp with rfl | rfl | rfl
    · exact t1.1
    · exact t2.1
    · exact t3.1
  · intro p hp
    simp only [List.mem_cons, List.not_mem_nil, or_false] at hp
    rcases hp with rfl | rfl | rfl
    · exact n1
    · exact n2
    · exact n3
  · intro p hp
    simp only [List.mem_cons, List.not_mem_nil, or_false] at hp
    rcases hp with rfl | rfl | rfl
    · exact t1.2
    · exact t2.2
    · exact t3.2
  have b1 := TB (c1, P1) (by simp)
  have b2 := TB (c2, P2) (by simp)
  have b3 := TB (c3, P3) (by simp)
  show FnOk l.prog w K mg base CX0 8 fa fd ["script"] (spW K [P1, P2, P3] (liftF Fx.wLaw))
  have c_whole := ok_whole (P := l.prog) (w := w) (base := base) (tabs := [P1, P2, P3]) T A1
  have c_between := ok_between T c_whole A2
  have c_moment := ok_moment T c_between A3
  have c_span := ok_span T c_moment A4
  have c_name := ok_isname (P := l.prog) (w := w) (base := base) (tabs := [P1, P2, P3]) (by simp) T b1 A5
  have c_deeds := ok_deeds (P := l.prog) (w := w) (base := base) (tabs := [P1, P2, P3]) (by simp) T b2 A6
  have c_leave := A7.of fun f fd (F : Fun K "is_leave" "is_leave" s_is_leave f fd) => leave_fn (P := l.prog) (w := w) (base := base) (tabs := [P1, P2, P3]) (c_1 := 0) T c_whole c_between c_span c_name c_deeds F
  have c_lies := ok_lies (P := l.prog) (w := w) (base := base) (tabs := [P1, P2, P3]) (by simp) T b3 A8
  have c_made := ok_made (P := l.prog) (w := w) (base := base) (tabs := [P1, P2, P3]) T A11
  have c_planned := ok_planned T c_leave c_made A10
  have c_tie := ok_hastie (P := l.prog) (w := w) (base := base) (tabs := [P1, P2, P3]) T A12
  have c_giver := ok_hasgiver T c_lies c_made A13
  have c_granted := ok_granted (P := l.prog) (w := w) (base := base) (tabs := [P1, P2, P3]) T A14
  have c_plan := ok_plan T c_planned c_tie c_giver c_granted A9
  have c_cell := ok_cell_at (P := l.prog) (w := w) (base := base) (tabs := [P1, P2, P3]) T A15
  have c_pool := ok_pool (P := l.prog) (w := w) (base := base) (tabs := [P1, P2, P3]) T A16
  have c_draw := ok_draw (P := l.prog) (w := w) (mg := mg) (base := base) (tabs := [P1, P2, P3]) A17
  have c_names := ok_names T c_draw A18
  have c_lspan := ok_lspan c_draw A19
  have c_tg := ok_trustg T c_draw c_names c_lspan A20
  have c_others := ok_others (P := l.prog) (w := w) (base := base) (tabs := [P1, P2, P3]) T A21
  have c_llies := ok_llies (P := l.prog) (w := w) (base := base) (tabs := [P1, P2, P3]) T A22
  have c_up := ok_up (P := l.prog) (w := w) (base := base) (tabs := [P1, P2, P3]) T A23
  have c_below := ok_below T c_up A24
  have c_fits := ok_fits T c_up c_below c_llies A25
  have c_next := ok_next (P := l.prog) (w := w) (base := base) (tabs := [P1, P2, P3]) T A26
  have c_tied := ok_tied (P := l.prog) (w := w) (base := base) (tabs := [P1, P2, P3]) T A27
  have c_case := ok_case T c_draw c_next c_tied c_fits A28
  have c_passed := ok_passed T c_up A29
  have c_rows := ok_rows T c_below c_passed A30
  have c_drawn := ok_drawn T c_case c_rows A31
  have c_lwithin := ok_lwithin (P := l.prog) (w := w) (base := base) (tabs := [P1, P2, P3]) T A32
  have c_lplan := ok_lplan T c_llies c_lwithin A33
  have c_lname := ok_lisname (P := l.prog) (w := w) (base := base) (tabs := [P1, P2, P3]) T A34
  have c_lsp := ok_lisspan (P := l.prog) (w := w) (mg := mg) (base := base) (tabs := [P1, P2, P3]) A35
  have c_ldeeds := ok_lisdeeds (P := l.prog) (w := w) (mg := mg) (base := base) (tabs := [P1, P2, P3]) A36
  have c_forms := ok_lforms T c_lname c_lsp c_ldeeds A37
  have c_truth := ok_ltruth (P := l.prog) (w := w) (base := base) (tabs := [P1, P2, P3]) T A38
  have c_part := ok_part T c_draw c_others A39
  have c_bent := ok_bent T c_draw c_part A40
  exact fn_law T c_plan c_cell c_pool c_draw c_tg c_drawn c_truth c_bent c_forms c_lplan F
end
theorem all_mk {l : PySem.W.OpenLaw} {w : World} {K : PySem.W.Frag} {h : Heap} {mg : Str → Option Value} {fa : Addr} (KX : K.In h) (G : h.Ns mainGlobals mg) (hfa : mg "law" = some (.ref fa))
    {f1 f2 f3 f4 f5 f6 f7 f8 f9 f10 f11 f12 f13 f14 f15 f16 f17 f18 f19 f20 f21 f22 f23 f24 f25 f26 f27 f28 f29 f30 f31 f32 f33 f34 f35 f36 f37 f38 f39 f40 f41 : Addr} {od1 an1 od2 an2 od3 an3 od4 an4 od5 an5 od6 an6 od7 an7 od8 an8 od9 an9 od10 an10 od11 an11 od12 an12 od13 an13 od14 an14 od15 an15 od16 an16 od17 an17 od18 an18 od19 an19 od20 an20 od21 an21 od22 an22 od23 an23 od24 an24 od25 an25 od26 an26 od27 an27 od28 an28 od29 an29 od30 an30 od31 an31 od32 an32 od33 an33 od34 an34 od35 an35 od36 an36 od37 an37 od38 an38 od39 an39 od40 an40 od41 an41 : Option Addr} {sl1 sl2 sl3 sl4 sl5 sl6 sl7 sl8 sl9 sl10 sl11 sl12 sl13 sl14 sl15 sl16 sl17 sl18 sl19 sl20 sl21 sl22 sl23 sl24 sl25 sl26 sl27 sl28 sl29 sl30 sl31 sl32 sl33 sl34 sl35 sl36 sl37 sl38 sl39 sl40 sl41 : Array (Option Value)}
    {oc1 kV1 dc1 pm1 ct1 cd1 oc2 kV2 dc2 pm2 ct2 cd2 oc3 kV3 dc3 pm3 ct3 cd3 oc4 kV4 dc4 pm4 ct4 cd4 oc5 kV5 dc5 pm5 ct5 oc6 kV6 dc6 pm6 ct6 oc7 kV7 dc7 pm7 ct7 cd7 oc8 kV8 dc8 pm8 ct8 oc9 kV9 dc9 pm9 ct9 cd9 oc10 kV10 dc10 pm10 ct10 cd10 oc11 kV11 dc11 pm11 ct11 cd11 oc12 kV12 dc12 pm12 ct12 cd12 oc13 kV13 dc13 pm13 ct13 cd13 oc14 kV14 dc14 pm14 ct14 cd14 oc15 kV15 dc15 pm15 ct15 cd15 oc16 kV16 dc16 pm16 ct16 cd16 oc17 kV17 dc17 pm17 ct17 cd17 oc18 kV18 dc18 pm18 ct18 cd18 oc19 kV19 dc19 pm19 ct19 cd19 oc20 kV20 dc20 pm20 ct20 cd20 oc21 kV21 dc21 pm21 ct21 cd21 oc22 kV22 dc22 pm22 ct22 cd22 oc23 kV23 dc23 pm23 ct23 cd23 oc24 kV24 dc24 pm24 ct24 cd24 oc25 kV25 dc25 pm25 ct25 cd25 oc26 kV26 dc26 pm26 ct26 cd26 oc27 kV27 dc27 pm27 ct27 cd27 oc28 kV28 dc28 pm28 ct28 cd28 oc29 kV29 dc29 pm29 ct29 cd29 oc30 kV30 dc30 pm30 ct30 cd30 oc31 kV31 dc31 pm31 ct31 cd31 oc32 kV32 dc32 pm32 ct32 cd32 oc33 kV33 dc33 pm33 ct33 cd33 oc34 kV34 dc34 pm34 ct34 cd34 oc35 kV35 dc35 pm35 ct35 cd35 oc36 kV36 dc36 pm36 ct36 cd36 oc37 kV37 dc37 pm37 ct37 cd37 oc38 kV38 dc38 pm38 ct38 cd38 oc39 kV39 dc39 pm39 ct39 cd39 oc40 kV40 dc40 pm40 ct40 cd40 oc41 kV41 dc41 pm41 ct41 cd41 : Value}
    {q : Program} (TT : Tabs q K mg h) {cc5 pp5 cc6 pp6 cc8 pp8 : Addr} {ce5 ce6 ce8 : Value} {dd5 dd6 dd8 : Option Addr} {vs5 vs6 vs8 : Array Value} {sk5 sk6 sk8 : Array (Option Value)}
    (a1 : PySem.W.nsIn K mainGlobals "is_whole" = some (some (.ref f1)))
    (l1 : K.lookup f1 = some ⟨oc1, od1, .func (PySem.W.fnOf "is_whole" "is_whole" (defArgs s_is_whole) (defBody s_is_whole) (defScope s_is_whole) .none kV1 dc1 pm1 an1 cd1 ct1), sl1⟩)
    (c1 : PySem.W.codeIn K cd1 "is_whole" = true)
    (k1 : PySem.W.keepIn K (.ref f1) = true)
    (a2 : PySem.W.nsIn K mainGlobals "is_between" = some (some (.ref f2)))
    (l2 : K.lookup f2 = some ⟨oc2, od2, .func (PySem.W.fnOf "is_between" "is_between" (defArgs s_is_between) (defBody s_is_between) (defScope s_is_between) .none kV2 dc2 pm2 an2 cd2 ct2), sl2⟩)
    (c2 : PySem.W.codeIn K cd2 "is_between" = true)
    (k2 : PySem.W.keepIn K (.ref f2) = true)
    (a3 : PySem.W.nsIn K mainGlobals "is_moment" = some (some (.ref f3)))
    (l3 : K.lookup f3 = some ⟨oc3, od3, .func (PySem.W.fnOf "is_moment" "is_moment" (defArgs s_is_moment) (defBody s_is_moment) (defScope s_is_moment) .none kV3 dc3 pm3 an3 cd3 ct3), sl3⟩)
    (c3 : PySem.W.codeIn K cd3 "is_moment" = true)
    (k3 : PySem.W.keepIn K (.ref f3) = true)
    (a4 : PySem.W.nsIn K mainGlobals "is_span" = some (some (.ref f4)))
    (l4 : K.lookup f4 = some ⟨oc4, od4, .func (PySem.W.fnOf "is_span" "is_span" (defArgs s_is_span) (defBody s_is_span) (defScope s_is_span) .none kV4 dc4 pm4 an4 cd4 ct4), sl4⟩)
    (c4 : PySem.W.codeIn K cd4 "is_span" = true)
    (k4 : PySem.W.keepIn K (.ref f4) = true)
    (a5 : PySem.W.nsIn K mainGlobals "is_name" = some (some (.ref f5)))
    (l5 : K.lookup f5 = some ⟨oc5, od5, .func (PySem.W.fnOf "is_name" "is_name" (defArgs s_is_name) (defBody s_is_name) (defScope s_is_name) .none kV5 dc5 pm5 an5 (.ref cc5) ct5), sl5⟩)
    (c5 : PySem.W.codeIn K (.ref cc5) "is_name" = true)
    (k5 : PySem.W.keepIn K (.ref f5) = true)
    (j5 : ((recsOf q).any fun d => d.name == ("is_name" : Str)) = true)
    (q5 : K.lookup cc5 = some ⟨ce5, dd5, .fields vs5, sk5⟩)
    (r5 : vs5[11]? = some (.ref pp5))
    (n5 : K.lookup pp5 = none)
    (a6 : PySem.W.nsIn K mainGlobals "is_deeds" = some (some (.ref f6)))
    (l6 : K.lookup f6 = some ⟨oc6, od6, .func (PySem.W.fnOf "is_deeds" "is_deeds" (defArgs s_is_deeds) (defBody s_is_deeds) (defScope s_is_deeds) .none kV6 dc6 pm6 an6 (.ref cc6) ct6), sl6⟩)
    (c6 : PySem.W.codeIn K (.ref cc6) "is_deeds" = true)
    (k6 : PySem.W.keepIn K (.ref f6) = true)
    (j6 : ((recsOf q).any fun d => d.name == ("is_deeds" : Str)) = true)
    (q6 : K.lookup cc6 = some ⟨ce6, dd6, .fields vs6, sk6⟩)
    (r6 : vs6[11]? = some (.ref pp6))
    (n6 : K.lookup pp6 = none)
    (a7 : PySem.W.nsIn K mainGlobals "is_leave" = some (some (.ref f7)))
    (l7 : K.lookup f7 = some ⟨oc7, od7, .func (PySem.W.fnOf "is_leave" "is_leave" (defArgs s_is_leave) (defBody s_is_leave) (defScope s_is_leave) .none kV7 dc7 pm7 an7 cd7 ct7), sl7⟩)
    (c7 : PySem.W.codeIn K cd7 "is_leave" = true)
    (k7 : PySem.W.keepIn K (.ref f7) = true)
    (a8 : PySem.W.nsIn K mainGlobals "lies_within" = some (some (.ref f8)))
    (l8 : K.lookup f8 = some ⟨oc8, od8, .func (PySem.W.fnOf "lies_within" "lies_within" (defArgs s_lies_within) (defBody s_lies_within) (defScope s_lies_within) .none kV8 dc8 pm8 an8 (.ref cc8) ct8), sl8⟩)
    (c8 : PySem.W.codeIn K (.ref cc8) "lies_within" = true)
    (k8 : PySem.W.keepIn K (.ref f8) = true)
    (j8 : ((recsOf q).any fun d => d.name == ("lies_within" : Str)) = true)
    (q8 : K.lookup cc8 = some ⟨ce8, dd8, .fields vs8, sk8⟩)
    (r8 : vs8[11]? = some (.ref pp8))
    (n8 : K.lookup pp8 = none)
    (a9 : PySem.W.nsIn K mainGlobals "is_plan" = some (some (.ref f9)))
    (l9 : K.lookup f9 = some ⟨oc9, od9, .func (PySem.W.fnOf "is_plan" "is_plan" (defArgs s_is_plan) (defBody s_is_plan) (defScope s_is_plan) .none kV9 dc9 pm9 an9 cd9 ct9), sl9⟩)
    (c9 : PySem.W.codeIn K cd9 "is_plan" = true)
    (k9 : PySem.W.keepIn K (.ref f9) = true)
    (a10 : PySem.W.nsIn K mainGlobals "_is_planned" = some (some (.ref f10)))
    (l10 : K.lookup f10 = some ⟨oc10, od10, .func (PySem.W.fnOf "_is_planned" "_is_planned" (defArgs s__is_planned) (defBody s__is_planned) (defScope s__is_planned) .none kV10 dc10 pm10 an10 cd10 ct10), sl10⟩)
    (c10 : PySem.W.codeIn K cd10 "_is_planned" = true)
    (k10 : PySem.W.keepIn K (.ref f10) = true)
    (a11 : PySem.W.nsIn K mainGlobals "_made_leave" = some (some (.ref f11)))
    (l11 : K.lookup f11 = some ⟨oc11, od11, .func (PySem.W.fnOf "_made_leave" "_made_leave" (defArgs s__made_leave) (defBody s__made_leave) (defScope s__made_leave) .none kV11 dc11 pm11 an11 cd11 ct11), sl11⟩)
    (c11 : PySem.W.codeIn K cd11 "_made_leave" = true)
    (k11 : PySem.W.keepIn K (.ref f11) = true)
    (a12 : PySem.W.nsIn K mainGlobals "_has_tie" = some (some (.ref f12)))
    (l12 : K.lookup f12 = some ⟨oc12, od12, .func (PySem.W.fnOf "_has_tie" "_has_tie" (defArgs s__has_tie) (defBody s__has_tie) (defScope s__has_tie) .none kV12 dc12 pm12 an12 cd12 ct12), sl12⟩)
    (c12 : PySem.W.codeIn K cd12 "_has_tie" = true)
    (k12 : PySem.W.keepIn K (.ref f12) = true)
    (a13 : PySem.W.nsIn K mainGlobals "_has_giver" = some (some (.ref f13)))
    (l13 : K.lookup f13 = some ⟨oc13, od13, .func (PySem.W.fnOf "_has_giver" "_has_giver" (defArgs s__has_giver) (defBody s__has_giver) (defScope s__has_giver) .none kV13 dc13 pm13 an13 cd13 ct13), sl13⟩)
    (c13 : PySem.W.codeIn K cd13 "_has_giver" = true)
    (k13 : PySem.W.keepIn K (.ref f13) = true)
    (a14 : PySem.W.nsIn K mainGlobals "_is_granted" = some (some (.ref f14)))
    (l14 : K.lookup f14 = some ⟨oc14, od14, .func (PySem.W.fnOf "_is_granted" "_is_granted" (defArgs s__is_granted) (defBody s__is_granted) (defScope s__is_granted) .none kV14 dc14 pm14 an14 cd14 ct14), sl14⟩)
    (c14 : PySem.W.codeIn K cd14 "_is_granted" = true)
    (k14 : PySem.W.keepIn K (.ref f14) = true)
    (a15 : PySem.W.nsIn K mainGlobals "_law_cell_at" = some (some (.ref f15)))
    (l15 : K.lookup f15 = some ⟨oc15, od15, .func (PySem.W.fnOf "_law_cell_at" "_law_cell_at" (defArgs s__law_cell_at) (defBody s__law_cell_at) (defScope s__law_cell_at) .none kV15 dc15 pm15 an15 cd15 ct15), sl15⟩)
    (c15 : PySem.W.codeIn K cd15 "_law_cell_at" = true)
    (k15 : PySem.W.keepIn K (.ref f15) = true)
    (a16 : PySem.W.nsIn K mainGlobals "_law_pool" = some (some (.ref f16)))
    (l16 : K.lookup f16 = some ⟨oc16, od16, .func (PySem.W.fnOf "_law_pool" "_law_pool" (defArgs s__law_pool) (defBody s__law_pool) (defScope s__law_pool) .none kV16 dc16 pm16 an16 cd16 ct16), sl16⟩)
    (c16 : PySem.W.codeIn K cd16 "_law_pool" = true)
    (k16 : PySem.W.keepIn K (.ref f16) = true)
    (a17 : PySem.W.nsIn K mainGlobals "_law_draw" = some (some (.ref f17)))
    (l17 : K.lookup f17 = some ⟨oc17, od17, .func (PySem.W.fnOf "_law_draw" "_law_draw" (defArgs s__law_draw) (defBody s__law_draw) (defScope s__law_draw) .none kV17 dc17 pm17 an17 cd17 ct17), sl17⟩)
    (c17 : PySem.W.codeIn K cd17 "_law_draw" = true)
    (k17 : PySem.W.keepIn K (.ref f17) = true)
    (a18 : PySem.W.nsIn K mainGlobals "_law_names" = some (some (.ref f18)))
    (l18 : K.lookup f18 = some ⟨oc18, od18, .func (PySem.W.fnOf "_law_names" "_law_names" (defArgs s__law_names) (defBody s__law_names) (defScope s__law_names) .none kV18 dc18 pm18 an18 cd18 ct18), sl18⟩)
    (c18 : PySem.W.codeIn K cd18 "_law_names" = true)
    (k18 : PySem.W.keepIn K (.ref f18) = true)
    (a19 : PySem.W.nsIn K mainGlobals "_law_span" = some (some (.ref f19)))
    (l19 : K.lookup f19 = some ⟨oc19, od19, .func (PySem.W.fnOf "_law_span" "_law_span" (defArgs s__law_span) (defBody s__law_span) (defScope s__law_span) .none kV19 dc19 pm19 an19 cd19 ct19), sl19⟩)
    (c19 : PySem.W.codeIn K cd19 "_law_span" = true)
    (k19 : PySem.W.keepIn K (.ref f19) = true)
    (a20 : PySem.W.nsIn K mainGlobals "_law_trust" = some (some (.ref f20)))
    (l20 : K.lookup f20 = some ⟨oc20, od20, .func (PySem.W.fnOf "_law_trust" "_law_trust" (defArgs s__law_trust) (defBody s__law_trust) (defScope s__law_trust) .none kV20 dc20 pm20 an20 cd20 ct20), sl20⟩)
    (c20 : PySem.W.codeIn K cd20 "_law_trust" = true)
    (k20 : PySem.W.keepIn K (.ref f20) = true)
    (a21 : PySem.W.nsIn K mainGlobals "_law_others" = some (some (.ref f21)))
    (l21 : K.lookup f21 = some ⟨oc21, od21, .func (PySem.W.fnOf "_law_others" "_law_others" (defArgs s__law_others) (defBody s__law_others) (defScope s__law_others) .none kV21 dc21 pm21 an21 cd21 ct21), sl21⟩)
    (c21 : PySem.W.codeIn K cd21 "_law_others" = true)
    (k21 : PySem.W.keepIn K (.ref f21) = true)
    (a22 : PySem.W.nsIn K mainGlobals "_law_lies" = some (some (.ref f22)))
    (l22 : K.lookup f22 = some ⟨oc22, od22, .func (PySem.W.fnOf "_law_lies" "_law_lies" (defArgs s__law_lies) (defBody s__law_lies) (defScope s__law_lies) .none kV22 dc22 pm22 an22 cd22 ct22), sl22⟩)
    (c22 : PySem.W.codeIn K cd22 "_law_lies" = true)
    (k22 : PySem.W.keepIn K (.ref f22) = true)
    (a23 : PySem.W.nsIn K mainGlobals "_law_up" = some (some (.ref f23)))
    (l23 : K.lookup f23 = some ⟨oc23, od23, .func (PySem.W.fnOf "_law_up" "_law_up" (defArgs s__law_up) (defBody s__law_up) (defScope s__law_up) .none kV23 dc23 pm23 an23 cd23 ct23), sl23⟩)
    (c23 : PySem.W.codeIn K cd23 "_law_up" = true)
    (k23 : PySem.W.keepIn K (.ref f23) = true)
    (a24 : PySem.W.nsIn K mainGlobals "_law_below" = some (some (.ref f24)))
    (l24 : K.lookup f24 = some ⟨oc24, od24, .func (PySem.W.fnOf "_law_below" "_law_below" (defArgs s__law_below) (defBody s__law_below) (defScope s__law_below) .none kV24 dc24 pm24 an24 cd24 ct24), sl24⟩)
    (c24 : PySem.W.codeIn K cd24 "_law_below" = true)
    (k24 : PySem.W.keepIn K (.ref f24) = true)
    (a25 : PySem.W.nsIn K mainGlobals "_law_fits" = some (some (.ref f25)))
    (l25 : K.lookup f25 = some ⟨oc25, od25, .func (PySem.W.fnOf "_law_fits" "_law_fits" (defArgs s__law_fits) (defBody s__law_fits) (defScope s__law_fits) .none kV25 dc25 pm25 an25 cd25 ct25), sl25⟩)
    (c25 : PySem.W.codeIn K cd25 "_law_fits" = true)
    (k25 : PySem.W.keepIn K (.ref f25) = true)
    (a26 : PySem.W.nsIn K mainGlobals "_law_next" = some (some (.ref f26)))
    (l26 : K.lookup f26 = some ⟨oc26, od26, .func (PySem.W.fnOf "_law_next" "_law_next" (defArgs s__law_next) (defBody s__law_next) (defScope s__law_next) .none kV26 dc26 pm26 an26 cd26 ct26), sl26⟩)
    (c26 : PySem.W.codeIn K cd26 "_law_next" = true)
    (k26 : PySem.W.keepIn K (.ref f26) = true)
    (a27 : PySem.W.nsIn K mainGlobals "_law_tied" = some (some (.ref f27)))
    (l27 : K.lookup f27 = some ⟨oc27, od27, .func (PySem.W.fnOf "_law_tied" "_law_tied" (defArgs s__law_tied) (defBody s__law_tied) (defScope s__law_tied) .none kV27 dc27 pm27 an27 cd27 ct27), sl27⟩)
    (c27 : PySem.W.codeIn K cd27 "_law_tied" = true)
    (k27 : PySem.W.keepIn K (.ref f27) = true)
    (a28 : PySem.W.nsIn K mainGlobals "_law_case" = some (some (.ref f28)))
    (l28 : K.lookup f28 = some ⟨oc28, od28, .func (PySem.W.fnOf "_law_case" "_law_case" (defArgs s__law_case) (defBody s__law_case) (defScope s__law_case) .none kV28 dc28 pm28 an28 cd28 ct28), sl28⟩)
    (c28 : PySem.W.codeIn K cd28 "_law_case" = true)
    (k28 : PySem.W.keepIn K (.ref f28) = true)
    (a29 : PySem.W.nsIn K mainGlobals "_law_passed" = some (some (.ref f29)))
    (l29 : K.lookup f29 = some ⟨oc29, od29, .func (PySem.W.fnOf "_law_passed" "_law_passed" (defArgs s__law_passed) (defBody s__law_passed) (defScope s__law_passed) .none kV29 dc29 pm29 an29 cd29 ct29), sl29⟩)
    (c29 : PySem.W.codeIn K cd29 "_law_passed" = true)
    (k29 : PySem.W.keepIn K (.ref f29) = true)
    (a30 : PySem.W.nsIn K mainGlobals "_law_rows" = some (some (.ref f30)))
    (l30 : K.lookup f30 = some ⟨oc30, od30, .func (PySem.W.fnOf "_law_rows" "_law_rows" (defArgs s__law_rows) (defBody s__law_rows) (defScope s__law_rows) .none kV30 dc30 pm30 an30 cd30 ct30), sl30⟩)
    (c30 : PySem.W.codeIn K cd30 "_law_rows" = true)
    (k30 : PySem.W.keepIn K (.ref f30) = true)
    (a31 : PySem.W.nsIn K mainGlobals "_law_drawn_rows" = some (some (.ref f31)))
    (l31 : K.lookup f31 = some ⟨oc31, od31, .func (PySem.W.fnOf "_law_drawn_rows" "_law_drawn_rows" (defArgs s__law_drawn_rows) (defBody s__law_drawn_rows) (defScope s__law_drawn_rows) .none kV31 dc31 pm31 an31 cd31 ct31), sl31⟩)
    (c31 : PySem.W.codeIn K cd31 "_law_drawn_rows" = true)
    (k31 : PySem.W.keepIn K (.ref f31) = true)
    (a32 : PySem.W.nsIn K mainGlobals "_law_within" = some (some (.ref f32)))
    (l32 : K.lookup f32 = some ⟨oc32, od32, .func (PySem.W.fnOf "_law_within" "_law_within" (defArgs s__law_within) (defBody s__law_within) (defScope s__law_within) .none kV32 dc32 pm32 an32 cd32 ct32), sl32⟩)
    (c32 : PySem.W.codeIn K cd32 "_law_within" = true)
    (k32 : PySem.W.keepIn K (.ref f32) = true)
    (a33 : PySem.W.nsIn K mainGlobals "_law_is_plan" = some (some (.ref f33)))
    (l33 : K.lookup f33 = some ⟨oc33, od33, .func (PySem.W.fnOf "_law_is_plan" "_law_is_plan" (defArgs s__law_is_plan) (defBody s__law_is_plan) (defScope s__law_is_plan) .none kV33 dc33 pm33 an33 cd33 ct33), sl33⟩)
    (c33 : PySem.W.codeIn K cd33 "_law_is_plan" = true)
    (k33 : PySem.W.keepIn K (.ref f33) = true)
    (a34 : PySem.W.nsIn K mainGlobals "_law_is_name" = some (some (.ref f34)))
    (l34 : K.lookup f34 = some ⟨oc34, od34, .func (PySem.W.fnOf "_law_is_name" "_law_is_name" (defArgs s__law_is_name) (defBody s__law_is_name) (defScope s__law_is_name) .none kV34 dc34 pm34 an34 cd34 ct34), sl34⟩)
    (c34 : PySem.W.codeIn K cd34 "_law_is_name" = true)
    (k34 : PySem.W.keepIn K (.ref f34) = true)
    (a35 : PySem.W.nsIn K mainGlobals "_law_is_span" = some (some (.ref f35)))
    (l35 : K.lookup f35 = some ⟨oc35, od35, .func (PySem.W.fnOf "_law_is_span" "_law_is_span" (defArgs s__law_is_span) (defBody s__law_is_span) (defScope s__law_is_span) .none kV35 dc35 pm35 an35 cd35 ct35), sl35⟩)
    (c35 : PySem.W.codeIn K cd35 "_law_is_span" = true)
    (k35 : PySem.W.keepIn K (.ref f35) = true)
    (a36 : PySem.W.nsIn K mainGlobals "_law_is_deeds" = some (some (.ref f36)))
    (l36 : K.lookup f36 = some ⟨oc36, od36, .func (PySem.W.fnOf "_law_is_deeds" "_law_is_deeds" (defArgs s__law_is_deeds) (defBody s__law_is_deeds) (defScope s__law_is_deeds) .none kV36 dc36 pm36 an36 cd36 ct36), sl36⟩)
    (c36 : PySem.W.codeIn K cd36 "_law_is_deeds" = true)
    (k36 : PySem.W.keepIn K (.ref f36) = true)
    (a37 : PySem.W.nsIn K mainGlobals "_law_forms" = some (some (.ref f37)))
    (l37 : K.lookup f37 = some ⟨oc37, od37, .func (PySem.W.fnOf "_law_forms" "_law_forms" (defArgs s__law_forms) (defBody s__law_forms) (defScope s__law_forms) .none kV37 dc37 pm37 an37 cd37 ct37), sl37⟩)
    (c37 : PySem.W.codeIn K cd37 "_law_forms" = true)
    (k37 : PySem.W.keepIn K (.ref f37) = true)
    (a38 : PySem.W.nsIn K mainGlobals "_law_truth" = some (some (.ref f38)))
    (l38 : K.lookup f38 = some ⟨oc38, od38, .func (PySem.W.fnOf "_law_truth" "_law_truth" (defArgs s__law_truth) (defBody s__law_truth) (defScope s__law_truth) .none kV38 dc38 pm38 an38 cd38 ct38), sl38⟩)
    (c38 : PySem.W.codeIn K cd38 "_law_truth" = true)
    (k38 : PySem.W.keepIn K (.ref f38) = true)
    (a39 : PySem.W.nsIn K mainGlobals "_law_part" = some (some (.ref f39)))
    (l39 : K.lookup f39 = some ⟨oc39, od39, .func (PySem.W.fnOf "_law_part" "_law_part" (defArgs s__law_part) (defBody s__law_part) (defScope s__law_part) .none kV39 dc39 pm39 an39 cd39 ct39), sl39⟩)
    (c39 : PySem.W.codeIn K cd39 "_law_part" = true)
    (k39 : PySem.W.keepIn K (.ref f39) = true)
    (a40 : PySem.W.nsIn K mainGlobals "_law_bent" = some (some (.ref f40)))
    (l40 : K.lookup f40 = some ⟨oc40, od40, .func (PySem.W.fnOf "_law_bent" "_law_bent" (defArgs s__law_bent) (defBody s__law_bent) (defScope s__law_bent) .none kV40 dc40 pm40 an40 cd40 ct40), sl40⟩)
    (c40 : PySem.W.codeIn K cd40 "_law_bent" = true)
    (k40 : PySem.W.keepIn K (.ref f40) = true)
    (a41 : PySem.W.nsIn K mainGlobals "law" = some (some (.ref f41)))
    (l41 : K.lookup f41 = some ⟨oc41, od41, .func (PySem.W.fnOf "law" "law" (defArgs s_law) (defBody s_law) (defScope s_law) .none kV41 dc41 pm41 an41 cd41 ct41), sl41⟩)
    (c41 : PySem.W.codeIn K cd41 "law" = true)
    (k41 : PySem.W.keepIn K (.ref f41) = true)
    (z_all : PySem.W.nsIn K mainGlobals "all" = some none)
    (z_any : PySem.W.nsIn K mainGlobals "any" = some none)
    (z_bool : PySem.W.nsIn K mainGlobals "bool" = some none)
    (z_dict : PySem.W.nsIn K mainGlobals "dict" = some none)
    (z_int : PySem.W.nsIn K mainGlobals "int" = some none)
    (z_isinstance : PySem.W.nsIn K mainGlobals "isinstance" = some none)
    (z_len : PySem.W.nsIn K mainGlobals "len" = some none)
    (z_list : PySem.W.nsIn K mainGlobals "list" = some none)
    (z_max : PySem.W.nsIn K mainGlobals "max" = some none)
    (z_min : PySem.W.nsIn K mainGlobals "min" = some none)
    (z_range : PySem.W.nsIn K mainGlobals "range" = some none)
    (z_set : PySem.W.nsIn K mainGlobals "set" = some none)
    (z_sorted : PySem.W.nsIn K mainGlobals "sorted" = some none)
    (z_str : PySem.W.nsIn K mainGlobals "str" = some none)
    (z_tuple : PySem.W.nsIn K mainGlobals "tuple" = some none)
    {t3 : Tok}
    {p2c : Addr} {od2c : Option Addr} {n2c : Nat} {sl2c : Array (Option Value)}
    {t5 : Tok}
    {p4c : Addr} {od4c : Option Addr} {n4c : Nat} {sl4c : Array (Option Value)}
    {t7 : Tok}
    {t8 : Tok}
    {p6c : Addr} {od6c : Option Addr} {n6c : Nat} {sl6c : Array (Option Value)}
    {p1c : Addr} {od1c : Option Addr} {n1c : Nat} {sl1c : Array (Option Value)}
    (g_ALL_DEEDS : PySem.W.nsIn K mainGlobals "ALL_DEEDS" = some (some (.ref p1c)))
    (o1c : K.lookup p1c = some ⟨.type "tuple", od1c, .seq #[.ref p2c, .ref p4c, .ref p6c] n1c, sl1c⟩)
    (o2c : K.lookup p2c = some ⟨.type "tuple", od2c, .seq #[.str "look" t3] n2c, sl2c⟩)
    (o4c : K.lookup p4c = some ⟨.type "tuple", od4c, .seq #[.str "set" t5] n4c, sl4c⟩)
    (o6c : K.lookup p6c = some ⟨.type "tuple", od6c, .seq #[.str "look" t7, .str "set" t8] n6c, sl6c⟩)
    {t9 : Tok}
    (g_DEEDS : PySem.W.nsIn K mainGlobals "DEEDS" = some (some (.int (2) t9)))
    {t10 : Tok}
    (g_GIVER : PySem.W.nsIn K mainGlobals "GIVER" = some (some (.int (3) t10)))
    {t11 : Tok}
    (g_HOLDER : PySem.W.nsIn K mainGlobals "HOLDER" = some (some (.int (4) t11)))
    {t12 : Tok}
    (g_LAST_MOMENT : PySem.W.nsIn K mainGlobals "LAST_MOMENT" = some (some (.int (1000000) t12)))
    {t13 : Tok}
    (g_LONGEST_NAME : PySem.W.nsIn K mainGlobals "LONGEST_NAME" = some (some (.int (8) t13)))
    {t14 : Tok}
    (g_MOST_PASSES : PySem.W.nsIn K mainGlobals "MOST_PASSES" = some (some (.int (6) t14)))
    {t15 : Tok}
    (g_OWNER : PySem.W.nsIn K mainGlobals "OWNER" = some (some (.int (0) t15)))
    {t16 : Tok}
    (g_PASSES : PySem.W.nsIn K mainGlobals "PASSES" = some (some (.int (7) t16)))
    {t17 : Tok}
    (g_ROOM : PySem.W.nsIn K mainGlobals "ROOM" = some (some (.int (1) t17)))
    {t18 : Tok}
    (g_ROOM_NAME : PySem.W.nsIn K mainGlobals "ROOM_NAME" = some (some (.str "room" t18)))
    {t19 : Tok}
    (g_SINCE : PySem.W.nsIn K mainGlobals "SINCE" = some (some (.int (5) t19)))
    {t20 : Tok}
    (g_TIES : PySem.W.nsIn K mainGlobals "TIES" = some (some (.int (1) t20)))
    {t21 : Tok}
    (g_UNTIL : PySem.W.nsIn K mainGlobals "UNTIL" = some (some (.int (6) t21)))
    {t22 : Tok}
    (g_WISHES : PySem.W.nsIn K mainGlobals "WISHES" = some (some (.int (2) t22)))
    : LawAt l w K 8 63 "script" mg h fa := by
  have T : Txt K mg := ⟨PySem.W.mg_none_of KX G z_all, PySem.W.mg_none_of KX G z_any, PySem.W.mg_none_of KX G z_bool, PySem.W.mg_none_of KX G z_dict, PySem.W.mg_none_of KX G z_int, PySem.W.mg_none_of KX G z_isinstance, PySem.W.mg_none_of KX G z_len, PySem.W.mg_none_of KX G z_list, PySem.W.mg_none_of KX G z_max, PySem.W.mg_none_of KX G z_min, PySem.W.mg_none_of KX G z_range, PySem.W.mg_none_of KX G z_set, PySem.W.mg_none_of KX G z_sorted, PySem.W.mg_none_of KX G z_str, PySem.W.mg_none_of KX G z_tuple, ⟨.ref p1c, _, PySem.W.mg_of KX G g_ALL_DEEDS, rfl, fun _ => (.tup (vs := [.ref p2c, .ref p4c, .ref p6c]) (.inr ⟨_, _, _, o1c, rfl, rfl, (show 3 ≤ sizeLine by decide), (.cons rfl (.cons rfl (.cons rfl .nil)))⟩) (.cons (.tup (vs := [.str "look"]) (.inr ⟨_, _, _, o2c, rfl, rfl, (show 1 ≤ sizeLine by decide), (.cons ⟨_, rfl⟩ .nil)⟩) (.cons (.str _) .nil)) (.cons (.tup (vs := [.str "set"]) (.inr ⟨_, _, _, o4c, rfl, rfl, (show 1 ≤ sizeLine by decide), (.cons ⟨_, rfl⟩ .nil)⟩) (.cons (.str _) .nil)) (.cons (.tup (vs := [.str "look", .str "set"]) (.inr ⟨_, _, _, o6c, rfl, rfl, (show 2 ≤ sizeLine by decide), (.cons ⟨_, rfl⟩ (.cons ⟨_, rfl⟩ .nil))⟩) (.cons (.str _) (.cons (.str _) .nil))) .nil))))⟩, ⟨.int (2), _, PySem.W.mg_of KX G g_DEEDS, ⟨_, rfl⟩, fun _ => (.int _)⟩, ⟨.int (3), _, PySem.W.mg_of KX G g_GIVER, ⟨_, rfl⟩, fun _ => (.int _)⟩, ⟨.int (4), _, PySem.W.mg_of KX G g_HOLDER, ⟨_, rfl⟩, fun _ => (.int _)⟩, ⟨.int (1000000), _, PySem.W.mg_of KX G g_LAST_MOMENT, ⟨_, rfl⟩, fun _ => (.int _)⟩, ⟨.int (8), _, PySem.W.mg_of KX G g_LONGEST_NAME, ⟨_, rfl⟩, fun _ => (.int _)⟩, ⟨.int (6), _, PySem.W.mg_of KX G g_MOST_PASSES, ⟨_, rfl⟩, fun _ => (.int _)⟩, ⟨.int (0), _, PySem.W.mg_of KX G g_OWNER, ⟨_, rfl⟩, fun _ => (.int _)⟩, ⟨.int (7), _, PySem.W.mg_of KX G g_PASSES, ⟨_, rfl⟩, fun _ => (.int _)⟩, ⟨.int (1), _, PySem.W.mg_of KX G g_ROOM, ⟨_, rfl⟩, fun _ => (.int _)⟩, ⟨.str "room", _, PySem.W.mg_of KX G g_ROOM_NAME, ⟨_, rfl⟩, fun _ => (.str _)⟩, ⟨.int (5), _, PySem.W.mg_of KX G g_SINCE, ⟨_, rfl⟩, fun _ => (.int _)⟩, ⟨.int (1), _, PySem.W.mg_of KX G g_TIES, ⟨_, rfl⟩, fun _ => (.int _)⟩, ⟨.int (6), _, PySem.W.mg_of KX G g_UNTIL, ⟨_, rfl⟩, fun _ => (.int _)⟩, ⟨.int (2), _, PySem.W.mg_of KX G g_WISHES, ⟨_, rfl⟩, fun _ => (.int _)⟩⟩
  have F1 := fun_mk (st := s_is_whole) l1 c1 k1
  have A_is_whole : At K mg "is_whole" s_is_whole ["thing"] := ⟨f1, _, F1, PySem.W.mg_of KX G a1, F1.binds (ps := ["thing"]) fun _ _ _ _ _ _ us hl => match us, hl with | [_], _ => rfl⟩
  have F2 := fun_mk (st := s_is_between) l2 c2 k2
  have A_is_between : At K mg "is_between" s_is_between ["thing", "least", "most"] := ⟨f2, _, F2, PySem.W.mg_of KX G a2, F2.binds (ps := ["thing", "least", "most"]) fun _ _ _ _ _ _ us hl => match us, hl with | [_, _, _], _ => rfl⟩
  have F3 := fun_mk (st := s_is_moment) l3 c3 k3
  have A_is_moment : At K mg "is_moment" s_is_moment ["thing"] := ⟨f3, _, F3, PySem.W.mg_of KX G a3, F3.binds (ps := ["thing"]) fun _ _ _ _ _ _ us hl => match us, hl with | [_], _ => rfl⟩
  have F4 := fun_mk (st := s_is_span) l4 c4 k4
  have A_is_span : At K mg "is_span" s_is_span ["since", "until"] := ⟨f4, _, F4, PySem.W.mg_of KX G a4, F4.binds (ps := ["since", "until"]) fun _ _ _ _ _ _ us hl => match us, hl with | [_, _], _ => rfl⟩
  have F5 := fun_mk (st := s_is_name) l5 c5 k5
  have A_is_name : AtC K mg "is_name" s_is_name ["thing"] cc5 := ⟨f5, _, F5, PySem.W.mg_of KX G a5, (F5.binds (ps := ["thing"]) fun _ _ _ _ _ _ us hl => match us, hl with | [_], _ => rfl), rfl⟩
  have t_is_name := TT "is_name" _ _ _ _ _ _ _ _ _ _ _ j5 (PySem.W.mg_of KX G a5) l5 rfl q5 r5
  have F6 := fun_mk (st := s_is_deeds) l6 c6 k6
  have A_is_deeds : AtC K mg "is_deeds" s_is_deeds ["thing"] cc6 := ⟨f6, _, F6, PySem.W.mg_of KX G a6, (F6.binds (ps := ["thing"]) fun _ _ _ _ _ _ us hl => match us, hl with | [_], _ => rfl), rfl⟩
  have t_is_deeds := TT "is_deeds" _ _ _ _ _ _ _ _ _ _ _ j6 (PySem.W.mg_of KX G a6) l6 rfl q6 r6
  have F7 := fun_mk (st := s_is_leave) l7 c7 k7
  have A_is_leave : At K mg "is_leave" s_is_leave ["thing"] := ⟨f7, _, F7, PySem.W.mg_of KX G a7, F7.binds (ps := ["thing"]) fun _ _ _ _ _ _ us hl => match us, hl with | [_], _ => rfl⟩
  have F8 := fun_mk (st := s_lies_within) l8 c8 k8
  have A_lies_within : AtC K mg "lies_within" s_lies_within ["leave", "other"] cc8 := ⟨f8, _, F8, PySem.W.mg_of KX G a8, (F8.binds (ps := ["leave", "other"]) fun _ _ _ _ _ _ us hl => match us, hl with | [_, _], _ => rfl), rfl⟩
  have t_lies_within := TT "lies_within" _ _ _ _ _ _ _ _ _ _ _ j8 (PySem.W.mg_of KX G a8) l8 rfl q8 r8
  have F9 := fun_mk (st := s_is_plan) l9 c9 k9
  have A_is_plan : At K mg "is_plan" s_is_plan ["trust", "thing"] := ⟨f9, _, F9, PySem.W.mg_of KX G a9, F9.binds (ps := ["trust", "thing"]) fun _ _ _ _ _ _ us hl => match us, hl with | [_, _], _ => rfl⟩
  have F10 := fun_mk (st := s__is_planned) l10 c10 k10
  have A__is_planned : At K mg "_is_planned" s__is_planned ["thing"] := ⟨f10, _, F10, PySem.W.mg_of KX G a10, F10.binds (ps := ["thing"]) fun _ _ _ _ _ _ us hl => match us, hl with | [_], _ => rfl⟩
  have F11 := fun_mk (st := s__made_leave) l11 c11 k11
  have A__made_leave : At K mg "_made_leave" s__made_leave ["row"] := ⟨f11, _, F11, PySem.W.mg_of KX G a11, F11.binds (ps := ["row"]) fun _ _ _ _ _ _ us hl => match us, hl with | [_], _ => rfl⟩
  have F12 := fun_mk (st := s__has_tie) l12 c12 k12
  have A__has_tie : At K mg "_has_tie" s__has_tie ["trust", "row"] := ⟨f12, _, F12, PySem.W.mg_of KX G a12, F12.binds (ps := ["trust", "row"]) fun _ _ _ _ _ _ us hl => match us, hl with | [_, _], _ => rfl⟩
  have F13 := fun_mk (st := s__has_giver) l13 c13 k13
  have A__has_giver : At K mg "_has_giver" s__has_giver ["trust", "plan", "row"] := ⟨f13, _, F13, PySem.W.mg_of KX G a13, F13.binds (ps := ["trust", "plan", "row"]) fun _ _ _ _ _ _ us hl => match us, hl with | [_, _, _], _ => rfl⟩
  have F14 := fun_mk (st := s__is_granted) l14 c14 k14
  have A__is_granted : At K mg "_is_granted" s__is_granted ["plan", "wish"] := ⟨f14, _, F14, PySem.W.mg_of KX G a14, F14.binds (ps := ["plan", "wish"]) fun _ _ _ _ _ _ us hl => match us, hl with | [_, _], _ => rfl⟩
  have F15 := fun_mk (st := s__law_cell_at) l15 c15 k15
  have A__law_cell_at : At K mg "_law_cell_at" s__law_cell_at ["script", "k"] := ⟨f15, _, F15, PySem.W.mg_of KX G a15, F15.binds (ps := ["script", "k"]) fun _ _ _ _ _ _ us hl => match us, hl with | [_, _], _ => rfl⟩
  have F16 := fun_mk (st := s__law_pool) l16 c16 k16
  have A__law_pool : At K mg "_law_pool" s__law_pool ["cell", "place"] := ⟨f16, _, F16, PySem.W.mg_of KX G a16, F16.binds (ps := ["cell", "place"]) fun _ _ _ _ _ _ us hl => match us, hl with | [_, _], _ => rfl⟩
  have F17 := fun_mk (st := s__law_draw) l17 c17 k17
  have A__law_draw : At K mg "_law_draw" s__law_draw ["pool", "many"] := ⟨f17, _, F17, PySem.W.mg_of KX G a17, F17.binds (ps := ["pool", "many"]) fun _ _ _ _ _ _ us hl => match us, hl with | [_, _], _ => rfl⟩
  have F18 := fun_mk (st := s__law_names) l18 c18 k18
  have A__law_names : At K mg "_law_names" s__law_names ["pool", "many"] := ⟨f18, _, F18, PySem.W.mg_of KX G a18, F18.binds (ps := ["pool", "many"]) fun _ _ _ _ _ _ us hl => match us, hl with | [_, _], _ => rfl⟩
  have F19 := fun_mk (st := s__law_span) l19 c19 k19
  have A__law_span : At K mg "_law_span" s__law_span ["pool", "way"] := ⟨f19, _, F19, PySem.W.mg_of KX G a19, F19.binds (ps := ["pool", "way"]) fun _ _ _ _ _ _ us hl => match us, hl with | [_, _], _ => rfl⟩
  have F20 := fun_mk (st := s__law_trust) l20 c20 k20
  have A__law_trust : At K mg "_law_trust" s__law_trust ["pool", "most"] := ⟨f20, _, F20, PySem.W.mg_of KX G a20, F20.binds (ps := ["pool", "most"]) fun _ _ _ _ _ _ us hl => match us, hl with | [_, _], _ => rfl⟩
  have F21 := fun_mk (st := s__law_others) l21 c21 k21
  have A__law_others : At K mg "_law_others" s__law_others ["trust"] := ⟨f21, _, F21, PySem.W.mg_of KX G a21, F21.binds (ps := ["trust"]) fun _ _ _ _ _ _ us hl => match us, hl with | [_], _ => rfl⟩
  have F22 := fun_mk (st := s__law_lies) l22 c22 k22
  have A__law_lies : At K mg "_law_lies" s__law_lies ["trust", "giver", "holder", "since", "until"] := ⟨f22, _, F22, PySem.W.mg_of KX G a22, F22.binds (ps := ["trust", "giver", "holder", "since", "until"]) fun _ _ _ _ _ _ us hl => match us, hl with | [_, _, _, _, _], _ => rfl⟩
  have F23 := fun_mk (st := s__law_up) l23 c23 k23
  have A__law_up : At K mg "_law_up" s__law_up ["case", "actor"] := ⟨f23, _, F23, PySem.W.mg_of KX G a23, F23.binds (ps := ["case", "actor"]) fun _ _ _ _ _ _ us hl => match us, hl with | [_, _], _ => rfl⟩
  have F24 := fun_mk (st := s__law_below) l24 c24 k24
  have A__law_below : At K mg "_law_below" s__law_below ["trust", "case", "actor"] := ⟨f24, _, F24, PySem.W.mg_of KX G a24, F24.binds (ps := ["trust", "case", "actor"]) fun _ _ _ _ _ _ us hl => match us, hl with | [_, _, _], _ => rfl⟩
  have F25 := fun_mk (st := s__law_fits) l25 c25 k25
  have A__law_fits : At K mg "_law_fits" s__law_fits ["trust", "case"] := ⟨f25, _, F25, PySem.W.mg_of KX G a25, F25.binds (ps := ["trust", "case"]) fun _ _ _ _ _ _ us hl => match us, hl with | [_, _], _ => rfl⟩
  have F26 := fun_mk (st := s__law_next) l26 c26 k26
  have A__law_next : At K mg "_law_next" s__law_next ["trust", "case"] := ⟨f26, _, F26, PySem.W.mg_of KX G a26, F26.binds (ps := ["trust", "case"]) fun _ _ _ _ _ _ us hl => match us, hl with | [_, _], _ => rfl⟩
  have F27 := fun_mk (st := s__law_tied) l27 c27 k27
  have A__law_tied : At K mg "_law_tied" s__law_tied ["trust", "actor"] := ⟨f27, _, F27, PySem.W.mg_of KX G a27, F27.binds (ps := ["trust", "actor"]) fun _ _ _ _ _ _ us hl => match us, hl with | [_, _], _ => rfl⟩
  have F28 := fun_mk (st := s__law_case) l28 c28 k28
  have A__law_case : At K mg "_law_case" s__law_case ["pool", "trust"] := ⟨f28, _, F28, PySem.W.mg_of KX G a28, F28.binds (ps := ["pool", "trust"]) fun _ _ _ _ _ _ us hl => match us, hl with | [_, _], _ => rfl⟩
  have F29 := fun_mk (st := s__law_passed) l29 c29 k29
  have A__law_passed : At K mg "_law_passed" s__law_passed ["case", "actor"] := ⟨f29, _, F29, PySem.W.mg_of KX G a29, F29.binds (ps := ["case", "actor"]) fun _ _ _ _ _ _ us hl => match us, hl with | [_, _], _ => rfl⟩
  have F30 := fun_mk (st := s__law_rows) l30 c30 k30
  have A__law_rows : At K mg "_law_rows" s__law_rows ["trust", "case"] := ⟨f30, _, F30, PySem.W.mg_of KX G a30, F30.binds (ps := ["trust", "case"]) fun _ _ _ _ _ _ us hl => match us, hl with | [_, _], _ => rfl⟩
  have F31 := fun_mk (st := s__law_drawn_rows) l31 c31 k31
  have A__law_drawn_rows : At K mg "_law_drawn_rows" s__law_drawn_rows ["pool", "trust"] := ⟨f31, _, F31, PySem.W.mg_of KX G a31, F31.binds (ps := ["pool", "trust"]) fun _ _ _ _ _ _ us hl => match us, hl with | [_, _], _ => rfl⟩
  have F32 := fun_mk (st := s__law_within) l32 c32 k32
  have A__law_within : At K mg "_law_within" s__law_within ["row", "other"] := ⟨f32, _, F32, PySem.W.mg_of KX G a32, F32.binds (ps := ["row", "other"]) fun _ _ _ _ _ _ us hl => match us, hl with | [_, _], _ => rfl⟩
  have F33 := fun_mk (st := s__law_is_plan) l33 c33 k33
  have A__law_is_plan : At K mg "_law_is_plan" s__law_is_plan ["trust", "rows"] := ⟨f33, _, F33, PySem.W.mg_of KX G a33, F33.binds (ps := ["trust", "rows"]) fun _ _ _ _ _ _ us hl => match us, hl with | [_, _], _ => rfl⟩
  have F34 := fun_mk (st := s__law_is_name) l34 c34 k34
  have A__law_is_name : At K mg "_law_is_name" s__law_is_name ["thing"] := ⟨f34, _, F34, PySem.W.mg_of KX G a34, F34.binds (ps := ["thing"]) fun _ _ _ _ _ _ us hl => match us, hl with | [_], _ => rfl⟩
  have F35 := fun_mk (st := s__law_is_span) l35 c35 k35
  have A__law_is_span : At K mg "_law_is_span" s__law_is_span ["since", "until"] := ⟨f35, _, F35, PySem.W.mg_of KX G a35, F35.binds (ps := ["since", "until"]) fun _ _ _ _ _ _ us hl => match us, hl with | [_, _], _ => rfl⟩
  have F36 := fun_mk (st := s__law_is_deeds) l36 c36 k36
  have A__law_is_deeds : At K mg "_law_is_deeds" s__law_is_deeds ["deeds"] := ⟨f36, _, F36, PySem.W.mg_of KX G a36, F36.binds (ps := ["deeds"]) fun _ _ _ _ _ _ us hl => match us, hl with | [_], _ => rfl⟩
  have F37 := fun_mk (st := s__law_forms) l37 c37 k37
  have A__law_forms : At K mg "_law_forms" s__law_forms ["rows"] := ⟨f37, _, F37, PySem.W.mg_of KX G a37, F37.binds (ps := ["rows"]) fun _ _ _ _ _ _ us hl => match us, hl with | [_], _ => rfl⟩
  have F38 := fun_mk (st := s__law_truth) l38 c38 k38
  have A__law_truth : At K mg "_law_truth" s__law_truth ["found", "due"] := ⟨f38, _, F38, PySem.W.mg_of KX G a38, F38.binds (ps := ["found", "due"]) fun _ _ _ _ _ _ us hl => match us, hl with | [_, _], _ => rfl⟩
  have F39 := fun_mk (st := s__law_part) l39 c39 k39
  have A__law_part : At K mg "_law_part" s__law_part ["pool", "trust", "row"] := ⟨f39, _, F39, PySem.W.mg_of KX G a39, F39.binds (ps := ["pool", "trust", "row"]) fun _ _ _ _ _ _ us hl => match us, hl with | [_, _, _], _ => rfl⟩
  have F40 := fun_mk (st := s__law_bent) l40 c40 k40
  have A__law_bent : At K mg "_law_bent" s__law_bent ["pool", "trust", "rows"] := ⟨f40, _, F40, PySem.W.mg_of KX G a40, F40.binds (ps := ["pool", "trust", "rows"]) fun _ _ _ _ _ _ us hl => match us, hl with | [_, _, _], _ => rfl⟩
  have F41 := fun_mk (st := s_law) l41 c41 k41
  have A_law : At K mg "law" s_law ["script"] := ⟨f41, _, F41, PySem.W.mg_of KX G a41, F41.binds (ps := ["script"]) fun _ _ _ _ _ _ us hl => match us, hl with | [_], _ => rfl⟩
  have e := hfa.symm.trans (PySem.W.mg_of KX G a41)
  cases e
  exact glue T A_is_whole A_is_between A_is_moment A_is_span A_is_name A_is_deeds A_is_leave A_lies_within A_is_plan A__is_planned A__made_leave A__has_tie A__has_giver A__is_granted A__law_cell_at A__law_pool A__law_draw A__law_names A__law_span A__law_trust A__law_others A__law_lies A__law_up A__law_below A__law_fits A__law_next A__law_tied A__law_case A__law_passed A__law_rows A__law_drawn_rows A__law_within A__law_is_plan A__law_is_name A__law_is_span A__law_is_deeds A__law_forms A__law_truth A__law_part A__law_bent t_is_name n5 t_is_deeds n6 t_lies_within n8 F41 (fun s v => .of_eq rfl)
--@ARGS a1 l1 c1 k1 a2 l2 c2 k2 a3 l3 c3 k3 a4 l4 c4 k4 a5 l5 c5 k5 j5 q5 r5 n5 a6 l6 c6 k6 j6 q6 r6 n6 a7 l7 c7 k7 a8 l8 c8 k8 j8 q8 r8 n8 a9 l9 c9 k9 a10 l10 c10 k10 a11 l11 c11 k11 a12 l12 c12 k12 a13 l13 c13 k13 a14 l14 c14 k14 a15 l15 c15 k15 a16 l16 c16 k16 a17 l17 c17 k17 a18 l18 c18 k18 a19 l19 c19 k19 a20 l20 c20 k20 a21 l21 c21 k21 a22 l22 c22 k22 a23 l23 c23 k23 a24 l24 c24 k24 a25 l25 c25 k25 a26 l26 c26 k26 a27 l27 c27 k27 a28 l28 c28 k28 a29 l29 c29 k29 a30 l30 c30 k30 a31 l31 c31 k31 a32 l32 c32 k32 a33 l33 c33 k33 a34 l34 c34 k34 a35 l35 c35 k35 a36 l36 c36 k36 a37 l37 c37 k37 a38 l38 c38 k38 a39 l39 c39 k39 a40 l40 c40 k40 a41 l41 c41 k41 z_all z_any z_bool z_dict z_int z_isinstance z_len z_list z_max z_min z_range z_set z_sorted z_str z_tuple g_ALL_DEEDS o1c o2c o4c o6c g_DEEDS g_GIVER g_HOLDER g_LAST_MOMENT g_LONGEST_NAME g_MOST_PASSES g_OWNER g_PASSES g_ROOM g_ROOM_NAME g_SINCE g_TIES g_UNTIL g_WISHES
end K75
open PySem PySem.W PyProof.Rows
set_option maxRecDepth 100000 in
set_option maxHeartbeats 0 in
theorem PySem.Challenge.cw_leavechain_k75_what_is_a_plan_holds : PySem.Challenge.rw_leavechain_k75_what_is_a_plan.Holds := by
  w_on; o_law; k_head; (case hw => w_witness2)
  k_fill
  refine Lk.walkX (l := PySem.Challenge.rw_leavechain_k75_what_is_a_plan) (n := 63) (k := 8) (x := "script") rfl (by decide) rfl ⟨rfl, by decide, by decide⟩ (fun w h Y => PySem.W.kIn_of Y) ?F
  case F =>
    intro w mg mb fa s0 h Gr Y KX G hmg
    refine' K75.all_mk KX G hmg (Lk.tabs_of Gr KX) ?a1 ?l1 ?c1 ?k1 ?a2 ?l2 ?c2 ?k2 ?a3 ?l3 ?c3 ?k3 ?a4 ?l4 ?c4 ?k4 ?a5 ?l5 ?c5 ?k5 ?j5 ?q5 ?r5 ?n5 ?a6 ?l6 ?c6 ?k6 ?j6 ?q6 ?r6 ?n6 ?a7 ?l7 ?c7 ?k7 ?a8 ?l8 ?c8 ?k8 ?j8 ?q8 ?r8 ?n8 ?a9 ?l9 ?c9 ?k9 ?a10 ?l10 ?c10 ?k10 ?a11 ?l11 ?c11 ?k11 ?a12 ?l12 ?c12 ?k12 ?a13 ?l13 ?c13 ?k13 ?a14 ?l14 ?c14 ?k14 ?a15 ?l15 ?c15 ?k15 ?a16 ?l16 ?c16 ?k16 ?a17 ?l17 ?c17 ?k17 ?a18 ?l18 ?c18 ?k18 ?a19 ?l19 ?c19 ?k19 ?a20 ?l20 ?c20 ?k20 ?a21 ?l21 ?c21 ?k21 ?a22 ?l22 ?c22 ?k22 ?a23 ?l23 ?c23 ?k23 ?a24 ?l24 ?c24 ?k24 ?a25 ?l25 ?c25 ?k25 ?a26 ?l26 ?c26 ?k26 ?a27 ?l27 ?c27 ?k27 ?a28 ?l28 ?c28 ?k28 ?a29 ?l29 ?c29 ?k29 ?a30 ?l30 ?c30 ?k30 ?a31 ?l31 ?c31 ?k31 ?a32 ?l32 ?c32 ?k32 ?a33 ?l33 ?c33 ?k33 ?a34 ?l34 ?c34 ?k34 ?a35 ?l35 ?c35 ?k35 ?a36 ?l36 ?c36 ?k36 ?a37 ?l37 ?c37 ?k37 ?a38 ?l38 ?c38 ?k38 ?a39 ?l39 ?c39 ?k39 ?a40 ?l40 ?c40 ?k40 ?a41 ?l41 ?c41 ?k41 ?z_all ?z_any ?z_bool ?z_dict ?z_int ?z_isinstance ?z_len ?z_list ?z_max ?z_min ?z_range ?z_set ?z_sorted ?z_str ?z_tuple ?g_ALL_DEEDS ?o1c ?o2c ?o4c ?o6c ?g_DEEDS ?g_GIVER ?g_HOLDER ?g_LAST_MOMENT ?g_LONGEST_NAME ?g_MOST_PASSES ?g_OWNER ?g_PASSES ?g_ROOM ?g_ROOM_NAME ?g_SINCE ?g_TIES ?g_UNTIL ?g_WISHES
    (case a1 => k_is); (case l1 => k_is); (case c1 => k_is); (case k1 => k_is); (case a2 => k_is); (case l2 => k_is)
    (case c2 => k_is); (case k2 => k_is); (case a3 => k_is); (case l3 => k_is); (case c3 => k_is); (case k3 => k_is)
    (case a4 => k_is); (case l4 => k_is); (case c4 => k_is); (case k4 => k_is); (case a5 => k_is); (case l5 => k_is)
    (case c5 => k_is); (case k5 => k_is); (case j5 => first | rfl | decide +kernel); (case q5 => k_is); (case r5 => rfl); (case n5 => first | rfl | decide +kernel | k_is)
    (case a6 => k_is); (case l6 => k_is); (case c6 => k_is); (case k6 => k_is); (case j6 => first | rfl | decide +kernel); (case q6 => k_is)
    (case r6 => rfl); (case n6 => first | rfl | decide +kernel | k_is); (case a7 => k_is); (case l7 => k_is); (case c7 => k_is); (case k7 => k_is)
    (case a8 => k_is); (case l8 => k_is); (case c8 => k_is); (case k8 => k_is); (case j8 => first | rfl | decide +kernel); (case q8 => k_is)
    (case r8 => rfl); (case n8 => first | rfl | decide +kernel | k_is); (case a9 => k_is); (case l9 => k_is); (case c9 => k_is); (case k9 => k_is)
    (case a10 => k_is); (case l10 => k_is); (case c10 => k_is); (case k10 => k_is); (case a11 => k_is); (case l11 => k_is)
    (case c11 => k_is); (case k11 => k_is); (case a12 => k_is); (case l12 => k_is); (case c12 => k_is); (case k12 => k_is)
    (case a13 => k_is); (case l13 => k_is); (case c13 => k_is); (case k13 => k_is); (case a14 => k_is); (case l14 => k_is)
    (case c14 => k_is); (case k14 => k_is); (case a15 => k_is); (case l15 => k_is); (case c15 => k_is); (case k15 => k_is)
    (case a16 => k_is); (case l16 => k_is); (case c16 => k_is); (case k16 => k_is); (case a17 => k_is); (case l17 => k_is)
    (case c17 => k_is); (case k17 => k_is); (case a18 => k_is); (case l18 => k_is); (case c18 => k_is); (case k18 => k_is)
    (case a19 => k_is); (case l19 => k_is); (case c19 => k_is); (case k19 => k_is); (case a20 => k_is); (case l20 => k_is)
    (case c20 => k_is); (case k20 => k_is); (case a21 => k_is); (case l21 => k_is); (case c21 => k_is); (case k21 => k_is)
    (case a22 => k_is); (case l22 => k_is); (case c22 => k_is); (case k22 => k_is); (case a23 => k_is); (case l23 => k_is)
    (case c23 => k_is); (case k23 => k_is); (case a24 => k_is); (case l24 => k_is); (case c24 => k_is); (case k24 => k_is)
    (case a25 => k_is); (case l25 => k_is); (case c25 => k_is); (case k25 => k_is); (case a26 => k_is); (case l26 => k_is)
    (case c26 => k_is); (case k26 => k_is); (case a27 => k_is); (case l27 => k_is); (case c27 => k_is); (case k27 => k_is)
    (case a28 => k_is); (case l28 => k_is); (case c28 => k_is); (case k28 => k_is); (case a29 => k_is); (case l29 => k_is)
    (case c29 => k_is); (case k29 => k_is); (case a30 => k_is); (case l30 => k_is); (case c30 => k_is); (case k30 => k_is)
    (case a31 => k_is); (case l31 => k_is); (case c31 => k_is); (case k31 => k_is); (case a32 => k_is); (case l32 => k_is)
    (case c32 => k_is); (case k32 => k_is); (case a33 => k_is); (case l33 => k_is); (case c33 => k_is); (case k33 => k_is)
    (case a34 => k_is); (case l34 => k_is); (case c34 => k_is); (case k34 => k_is); (case a35 => k_is); (case l35 => k_is)
    (case c35 => k_is); (case k35 => k_is); (case a36 => k_is); (case l36 => k_is); (case c36 => k_is); (case k36 => k_is)
    (case a37 => k_is); (case l37 => k_is); (case c37 => k_is); (case k37 => k_is); (case a38 => k_is); (case l38 => k_is)
    (case c38 => k_is); (case k38 => k_is); (case a39 => k_is); (case l39 => k_is); (case c39 => k_is); (case k39 => k_is)
    (case a40 => k_is); (case l40 => k_is); (case c40 => k_is); (case k40 => k_is); (case a41 => k_is); (case l41 => k_is)
    (case c41 => k_is); (case k41 => k_is); (case z_all => k_is); (case z_any => k_is); (case z_bool => k_is); (case z_dict => k_is)
    (case z_int => k_is); (case z_isinstance => k_is); (case z_len => k_is); (case z_list => k_is); (case z_max => k_is); (case z_min => k_is)
    (case z_range => k_is); (case z_set => k_is); (case z_sorted => k_is); (case z_str => k_is); (case z_tuple => k_is); (case g_ALL_DEEDS => k_is)
    (case o1c => k_is); (case o2c => k_is); (case o4c => k_is); (case o6c => k_is); (case g_DEEDS => k_is); (case g_GIVER => k_is)
    (case g_HOLDER => k_is); (case g_LAST_MOMENT => k_is); (case g_LONGEST_NAME => k_is); (case g_MOST_PASSES => k_is); (case g_OWNER => k_is); (case g_PASSES => k_is)
    (case g_ROOM => k_is); (case g_ROOM_NAME => k_is); (case g_SINCE => k_is); (case g_TIES => k_is); (case g_UNTIL => k_is); (case g_WISHES => k_is)

