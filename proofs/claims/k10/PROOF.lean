import PyProof.Rows.All
import Wide.All
import OpenK.AllK
import Wide.FinOn
import HandS.ForMost
import HandS.Codes
import HandS.Evl
import HandS.FStr
import HandS.Wide
import HandS.Zip
import HandS.RaiseMore
import HandS.IsInst
import HandS.EndOwn
import HandS.AnyAll
import HandS.TupAny
import PySem.Challenge.RW_leavechain_k10_whole_passed_on
set_option Elab.async false
set_option linter.all false
set_option maxRecDepth 100000
set_option maxHeartbeats 4000000
namespace Lk
open PySem PySem.Spec PyProof.Rows L2 Evl

/-! ### defs as they stand behind the top -/
/-- a def that may be called by its name, with its promise -/
structure Cal (P : Program) (w : World) (K : PySem.W.Frag) (mg : Str → Option Value) (base : Heap) (k : Nat) (x : Str) (sp : Sp) : Prop where
  ex : ∃ (f : Addr) (fd : FuncData) (ps : List Str), FnOk P w K mg base CX0 k f fd ps sp ∧ mg x = some (.ref f) ∧ PySem.W.keepIn K (.ref f) = true ∧ Binds K fd ps []
/-- the def x of the text: it stands at a known place, binds its parameters by place and by all their names -/
structure At (K : PySem.W.Frag) (mg : Str → Option Value) (x : Str) (st : Stmt) (ps : List Str) : Prop where
  ex : ∃ f fd, Fun K x x st f fd ∧ mg x = some (.ref f) ∧ Binds K fd ps []
/-- .. and by keywords alone -/
structure CalK (P : Program) (w : World) (K : PySem.W.Frag) (mg : Str → Option Value) (base : Heap) (k : Nat) (x : Str) (sp : Sp) (ks : List Str) : Prop where
  ex : ∃ (f : Addr) (fd : FuncData), FnOk P w K mg base CX0 k f fd ks sp ∧ mg x = some (.ref f) ∧ PySem.W.keepIn K (.ref f) = true ∧
    ∀ (s : Shared) (ws : List Value), ws.length = ks.length → BindsTo s fd ⟨[], ks.zip ws⟩ (ks.zip ws)
section
variable {P : Program} {w : World} {K : PySem.W.Frag} {mg : Str → Option Value} {base : Heap}
theorem At.cal {x : Str} {st : Stmt} {N ps : List Str} {k : Nat} {sp : Sp} (F : At K mg x st ps) (S : FnScope N ps (defScope st)) (len : ∀ vs H Q E, sp vs H Q E → vs.length = ps.length)
    (hbody : ∀ (f : Addr) (cdv : Value) (A : Around) (outer : List Env) (s : Shared) (H : Hp) (vs : List V) (Q : VK) (E : XK), Room k (A.deeper (envOfC x (defScope st) s.heap.objs.size f cdv)) → sp vs H Q E →
      ∃ t, PSs (cxOf CX0 P w K mg base N x (defScope st) f cdv A outer s H E).nox (defBody st) t ∧ t { nx := fun _ H' => Q .non H', rt := Q } (start N vs) H) : Cal P w K mg base (k + 1) x sp := by
  obtain ⟨f, fd, F1, g, b⟩ := F.ex
  exact ⟨⟨f, fd, ps, F1.ok S len (hbody f), g, F1.kp, b⟩⟩
end
structure AtK (K : PySem.W.Frag) (mg : Str → Option Value) (x : Str) (st : Stmt) (ps : List Str) : Prop where
  ex : ∃ f fd, Fun K x x st f fd ∧ mg x = some (.ref f) ∧ ∀ (s : Shared) (ws : List Value), ws.length = ps.length → BindsTo s fd ⟨[], ps.zip ws⟩ (ps.zip ws)
section
variable {P : Program} {w : World} {K : PySem.W.Frag} {mg : Str → Option Value} {base : Heap} {x : Str} {st : Stmt} {ps : List Str} {k : Nat} {sp : Sp}
theorem fn_ok {N : List Str} {f : Addr} {fd : FuncData} (F : Fun K x x st f fd) (S : FnScope N ps (defScope st)) (len : ∀ vs H Q E, sp vs H Q E → vs.length = ps.length)
    (hbody : ∀ (cdv : Value) (A : Around) (outer : List Env) (s : Shared) (H : Hp) (vs : List V) (Q : VK) (E : XK), Room k (A.deeper (envOfC x (defScope st) s.heap.objs.size f cdv)) → sp vs H Q E →
      ∃ t σ, start N vs = σ ∧ PSs (cxOf CX0 P w K mg base N x (defScope st) f cdv A outer s H E).nox (defBody st) t ∧ t { nx := fun _ H' => Q .non H', rt := Q } σ H) : FnOk P w K mg base CX0 (k + 1) f fd ps sp :=
  F.ok S len fun cdv A outer s H vs Q E hr h => by
    obtain ⟨t, σ, e, a, b⟩ := hbody cdv A outer s H vs Q E hr h
    subst e
    exact ⟨t, a, b⟩
theorem At.of (A : At K mg x st ps) (h : ∀ f fd, Fun K x x st f fd → FnOk P w K mg base CX0 k f fd ps sp) : Cal P w K mg base k x sp := by
  obtain ⟨f, fd, F1, g, b⟩ := A.ex
  exact ⟨⟨f, fd, ps, h f fd F1, g, F1.kp, b⟩⟩
theorem AtK.of (A : AtK K mg x st ps) (h : ∀ f fd, Fun K x x st f fd → FnOk P w K mg base CX0 k f fd ps sp) : CalK P w K mg base k x sp ps := by
  obtain ⟨f, fd, F1, g, b⟩ := A.ex
  exact ⟨⟨f, fd, h f fd F1, g, F1.kp, b⟩⟩
end
section
variable {X : Cx} {k j : Nat} {x : Str} {sp : Sp} {p pos : Pos} {kws : List Keyword} {ks : List Str} {tk : TA}
theorem pe_c {e : Expr} {es : List Expr} {t : TA} (c : Cal X.prog X.w X.K X.mg X.base k x sp) (hr : Room j X.A) (hk : k ≤ j) (hg : Gl X x) (ha : PA X (e :: es) t)
    (hdb : (x == ("__debug__" : Str)) = false := by decide) (he : starEach (e :: es) X.env = (false, eval e X.env) :: starEach es X.env := by rfl) (hpl : (backTo pos (starEach es X.env)).any (·.1) = false := by rfl) :
    PE X (.Call (.Name x p) (e :: es) [] pos) (tCall sp [] E0 t) := by
  obtain ⟨f, fd, ps, F, hm, kp, b⟩ := c.ex
  exact pe_call F (hr.mono hk) hg hm kp b .nil pass0 ha hdb he hpl
def tCallKw (m : Nat) (sp : Sp) (t : TA) : TE := fun σ H Q => t σ H fun zs H2 => zs.length = m ∧ sp zs H2 Q E0
theorem pe_ck (c : CalK X.prog X.w X.K X.mg X.base k x sp ks) (hr : Room j X.A) (hk : k ≤ j) (hg : Gl X x) (hkw : PK X kws tk)
    (hall : (backToKw pos (keywordEach kws X.env)).all (·.1.isSome) = true := by rfl) (hks : (backToKw pos (keywordEach kws X.env)).filterMap (·.1) = ks := by rfl) (hdb : (x == ("__debug__" : Str)) = false := by decide)
    (hpl : ((backTo pos (starEach [] X.env)).any (·.1) || (backToKw pos (keywordEach kws X.env)).any (·.1.isNone)) = false := by rfl) :
    PE X (.Call (.Name x p) [] kws pos) (tCallKw ks.length sp tk) := by
  obtain ⟨f, fd, F, hm, kp, b⟩ := c.ex
  refine ⟨fun pins s σ H Q I h => ?_⟩
  refine wpAny_Call_Name_kw (ld_glob I hg hm ?_ hdb)
  refine PySem.W.callWith_KW0 (h₀ := X.base) I.ok.mod.kin kp hall ?_ hpl
  refine thn (hkw.run pos pins s σ H _ I h) fun ws s2 ⟨zs, H2, I2, rz, l2, q2⟩ => ⟨I2.kIn, ?_⟩
  rw [hks]
  refine wpAny_call (codeAny_mono (F.run X.A X.stack s2 H2 ⟨[], ks.zip ws⟩ ws zs Q E0 (hr.mono hk) I2.env0 (b s2 ws (rz.length.symm.trans l2)) rz q2) fun r s' hq => ?_)
  cases r with
  | error e => exact False.elim hq
  | ok fl =>
    cases fl with
    | ret u => exact I2.after hq
    | next => exact False.elim hq
    | brk => exact False.elim hq
    | cont => exact False.elim hq
end

/-! ### operators that the layer lacks -/
def CPowW (i j : Int) : Prop := 0 ≤ j ∧ (Builtin.Int.intBits i : Int) * j ≤ 2 ^ 27
section
variable {X : Cx}
theorem op_powW : OpR X (binaryOp .Pow) (rI CPowW fun i j => .int (i ^ j.toNat)) := opI fun _ _ _ _ _ _ _ hc q => pow_int hc.1 hc.2 q
theorem pow_ok {i j : Int} {a : Nat} (ha : i.natAbs < 2 ^ a) (h0 : 0 < a) (hj : 0 ≤ j) (h : (a : Int) * j ≤ 2 ^ 27) : CPowW i j := by
  refine ⟨hj, ?_⟩
  have b : Builtin.Int.intBits i ≤ i.natAbs.log2 + 1 := by
    unfold Builtin.Int.intBits
    split <;> omega
  have l := PySem.Flt.log2_lt_of h0 ha
  have e : Builtin.Int.intBits i ≤ a := by omega
  exact Int.le_trans (Int.mul_le_mul_of_nonneg_right (by omega) hj) h

/-- xs[i] op= e -/
def rGetL (K : PySem.W.Frag) : V → V → Hp → VK → Prop := fun x y H Q => ∃ p xs i v, x = .ref p ∧ y = .int i ∧ SqL K H p xs ∧ 0 ≤ i ∧ xs[i.toNat]? = some v ∧ Q v H
theorem get_list : PGet X (rGetL X.K) := by
  intro pins s σ H x y ov iv Q I rx ry h
  obtain ⟨p, xs, i, z, e1, e2, hq, h0, he, q⟩ := h
  subst e1
  subst e2
  cases rx
  obtain ⟨t, rfl⟩ := ry
  obtain ⟨its, r, pl, hz⟩ := I.list hq
  obtain ⟨w, ew, rw'⟩ := r.get he
  have hl := r.length
  have hn := line63
  have hi : i.toNat < xs.length := (List.getElem?_eq_some_iff.mp he).1
  exact wpAny_getItem_list pl.isList h0 (by omega) (by simpa using ew) ⟨z, H, I, rw', q⟩
theorem ps_augL {o i e : Expr} {to ti te : TE} {tip : TIp} {op : Operator} {tpos pos : Pos} (ho : PE X o to) (hi : PE X i ti) (he : PE X e te) (hp : PIp X op tip)
    (ha : ∀ ov iv new, augStore i ov iv new = (do holding [new, ov, iv] (setItem ov iv new); release [new, ov, iv] []; pure .next) := by intros; rfl) : PS X (.AugAssign (.Subscript o i tpos) op e pos) (tAugS to ti te (rGetL X.K) tip rSetL) :=
  ps_augS ho hi get_list he hp set_list ha
end

/-! ### readings step by step: what is wanted stays folded -/
/-- a new list, a new tuple -/
def NewL (Q : VK) (xs : List V) (H : Hp) : Prop := xs.length ≤ sizeLine ∧ ∀ p, H p = none → Q (.ref p) (upd H p (.lst xs))
def NewT (Q : VK) (xs : List V) (H : Hp) : Prop := xs.length ≤ sizeLine ∧ ∀ p, H p = none → Q (.ref p) (upd H p (.tup xs))
section
variable {K : PySem.W.Frag} {σ : L2.St} {H : Hp} {Q : VK} {x y v : V} {ta tb te : TE} {tt tu : TT} {QB : Bool → Hp → Prop} {QA : List V → Hp → Prop} {D : Ends} {t1 t2 : TS} {tr : TA}
theorem g_var {i : Nat} (h : σ[i]? = some (some v)) (q : Q v H) : tVar i σ H Q := ⟨v, h, q⟩
theorem g_c (q : Q v H) : tC v σ H Q := q
theorem g_op {r : R2} (h : ta σ H fun x H1 => tb σ H1 fun y H2 => r x y H2 Q) : tOp r ta tb σ H Q := h
theorem g_un {r : V → Hp → VK → Prop} (h : ta σ H fun x H1 => r x H1 Q) : tUn r ta σ H Q := h
theorem g_I0 {g : Int → Int → V} {i j : Int} (q : Q (g i j) H) : rI0 g (.int i) (.int j) H Q := ⟨i, j, rfl, rfl, q⟩
theorem g_I {C : Int → Int → Prop} {g : Int → Int → V} {i j : Int} (c : C i j) (q : Q (g i j) H) : rI C g (.int i) (.int j) H Q := ⟨i, j, rfl, rfl, c, q⟩
theorem g_U {g : Int → V} {i : Int} (q : Q (g i) H) : rU g (.int i) H Q := ⟨i, rfl, q⟩
theorem g_Eq (h : scal x y = true) (q : Q (.bl (decide (x = y))) H) : rEq x y H Q := ⟨h, q⟩
theorem g_Ne (h : scal x y = true) (q : Q (.bl (!decide (x = y))) H) : rNe x y H Q := ⟨h, q⟩
theorem g_test (h : te σ H fun x H' => ∃ k, x = .bl k ∧ QB k H') : tTest te σ H QB := h
theorem g_B (h : te σ H fun x H' => ∃ k, x = .bl k ∧ QB k H') : tB te σ H QB := h
theorem g_bl {b : Bool} (q : QB b H) : ∃ k, V.bl b = .bl k ∧ QB k H := ⟨b, rfl, q⟩
theorem g_and (h : tt σ H fun c H1 => if c = true then tu σ H1 QB else QB false H1) : tAnd tt tu σ H QB := h
theorem g_or (h : tt σ H fun c H1 => if c = true then QB true H1 else tu σ H1 QB) : tOr tt tu σ H QB := h
theorem g_not (h : tt σ H fun c H1 => QB (!c) H1) : tNot tt σ H QB := h
theorem g_andV (h : ta σ H fun x H1 => ∃ c, x = .bl c ∧ if c = true then tb σ H1 Q else Q (.bl false) H1) : tAndV ta tb σ H Q := h
theorem g_orV (h : ta σ H fun x H1 => ∃ c, x = .bl c ∧ if c = true then Q (.bl true) H1 else tb σ H1 Q) : tOrV ta tb σ H Q := h
theorem g_notV (h : ta σ H fun x H1 => ∃ c, x = .bl c ∧ Q (.bl (!c)) H1) : tNotV ta σ H Q := h
theorem g_blV {b : Bool} {R : Bool → Prop} (q : R b) : ∃ k, V.bl b = .bl k ∧ R k := ⟨b, rfl, q⟩
theorem g_if (h : tt σ H fun c H1 => if c = true then ta σ H1 Q else tb σ H1 Q) : tIf tt ta tb σ H Q := h
theorem g_nil (q : QA [] H) : tNil σ H QA := q
theorem g_cons (h : te σ H fun x H1 => tr σ H1 fun xs H2 => QA (x :: xs) H2) : tCons te tr σ H QA := h
theorem g_call {sp : Sp} {dvs : List V} {E : XK} (h : tr σ H fun vs H1 => sp (vs ++ dvs) H1 Q E) : tCall sp dvs E tr σ H Q := h
theorem g_cb {r : List V → Hp → VK → Prop} (h : tr σ H fun vs H1 => r vs H1 Q) : tCB r tr σ H Q := h
theorem g_tup (h : tr σ H fun xs H1 => NewT Q xs H1) : tTup tr σ H Q := h
theorem g_lst (h : tr σ H fun xs H1 => NewL Q xs H1) : tLst tr σ H Q := h
theorem g_seq (h : t1 { D with nx := t2 D } σ H) : tSeq t1 t2 D σ H := h
theorem g_asg {i : Nat} (h : te σ H fun x H1 => D.nx (σ.set i (some x)) H1) : tAsg te (gName i) D σ H := h
theorem g_asgG {g : TG} (h : te σ H fun x H1 => g x σ H1 D.nx) : tAsg te g D σ H := h
theorem g_ifS (h : tt σ H fun b H1 => if b = true then t1 D σ H1 else t2 D σ H1) : tIfS tt t1 t2 D σ H := h
theorem g_ret (h : te σ H D.rt) : tRet te D σ H := h
theorem g_drop (h : te σ H fun _ H1 => D.nx σ H1) : tDrop te D σ H := h
theorem g_next (h : D.nx σ H) : tNext D σ H := h
theorem g_aug {i : Nat} {tip : TIp} (hx : σ[i]? = some (some x)) (h : te σ H fun y H1 => tip x y H1 fun z H2 => D.nx (σ.set i (some z)) H2) : tAug i te tip D σ H := ⟨x, hx, h⟩
theorem g_ipI {f : Int → Int → Int} {i j : Int} (q : Q (.int (f i j)) H) : ipI f (.int i) (.int j) H Q := ⟨i, j, rfl, rfl, q⟩
theorem g_name {i : Nat} {R : L2.St → Hp → Prop} (q : R (σ.set i (some x)) H) : gName i x σ H R := q
theorem g_M1 {r : V → List V → Hp → VK → Prop} (h : ta σ H fun x H1 => (∃ a, x = .str a) ∧ tb σ H1 fun y H2 => r x [y] H2 Q) : tM1 r ta tb σ H Q := h
theorem g_M0 {r : V → List V → Hp → VK → Prop} (h : ta σ H fun x H1 => (∃ a, x = .str a) ∧ r x [] H1 Q) : tM0 r ta σ H Q := h
theorem g_yes (q : QB true H) : tYes σ H QB := q
theorem g_sl {r : V → Option Int → Option Int → Hp → VK → Prop} {tl th : TO} (h : te σ H fun x H1 => tl σ H1 fun l H2 => th σ H2 fun u H3 => r x l u H3 Q) : tSl r te tl th σ H Q := h
theorem g_nopart {QO : Option Int → Hp → Prop} (q : QO none H) : tNoPart σ H QO := q
theorem g_part {QO : Option Int → Hp → Prop} (h : te σ H fun x H1 => ∃ i, x = .int i ∧ QO (some i) H1) : tPart te σ H QO := h
theorem g_intV {i : Int} {R : Int → Prop} (q : R i) : ∃ k, V.int i = .int k ∧ R k := ⟨i, rfl, q⟩
end

/-! ### heaps: all is kept, or all but what stands at u -/
def Kp (u : Addr) (H H' : Hp) : Prop := ∀ a o, a ≠ u → H a = some o → H' a = some o
def IsX (u : Addr) (H : Hp) : Prop := ∃ φ, H u = some (.ext φ)
theorem Kp.refl (u : Addr) (H : Hp) : Kp u H H := fun _ _ _ h => h
theorem Kp.trans {u : Addr} {H H1 H2 : Hp} (a : Kp u H H1) (b : Kp u H1 H2) : Kp u H H2 := fun x o n h => b x o n (a x o n h)
theorem Kp.of {u : Addr} {H H1 : Hp} (a : Ex H H1) : Kp u H H1 := fun x o _ h => a x o h
theorem Kp.fresh {u p : Addr} {H H1 : Hp} (k : Kp u H H1) (hu : IsX u H) (h : H1 p = none) (hu1 : IsX u H1) : H p = none := by
  cases e : H p with
  | none => rfl
  | some o =>
    by_cases n : p = u
    · obtain ⟨φ, z⟩ := hu1
      rw [n] at h
      rw [h] at z
      cases z
    · rw [k p o n e] at h
      cases h
section
variable {K : PySem.W.Frag} {u a : Addr} {H H' : Hp} {xs : List V}
theorem kp_lst (k : Kp u H H') (x : IsX u H) (h : H a = some (.lst xs)) : H' a = some (.lst xs) := by
  obtain ⟨φ, z⟩ := x
  exact k a _ (ne_of h z (by intro e; cases e)) h
theorem kp_tup (k : Kp u H H') (x : IsX u H) (h : H a = some (.tup xs)) : H' a = some (.tup xs) := by
  obtain ⟨φ, z⟩ := x
  exact k a _ (ne_of h z (by intro e; cases e)) h
theorem kp_dK {kvs : List (Key × V)} (k : Kp u H H') (x : IsX u H) (h : H a = some (.dK kvs)) : H' a = some (.dK kvs) := by
  obtain ⟨φ, z⟩ := x
  exact k a _ (ne_of h z (by intro e; cases e)) h
theorem kp_l (k : Kp u H H') (x : IsX u H) (h : SqL K H a xs) : SqL K H' a xs := by
  obtain ⟨φ, z⟩ := x
  rcases h with (h | ⟨o, h⟩) | h
  · exact .inl (.inl (k a _ (ne_of h z (by intro e; cases e)) h))
  · exact .inl (.inr ⟨o, k a _ (ne_of h z (by intro e; cases e)) h⟩)
  · exact .inr h
theorem kp_t (k : Kp u H H') (x : IsX u H) (h : SqT K H a xs) : SqT K H' a xs := by
  obtain ⟨φ, z⟩ := x
  rcases h with (h | ⟨o, h⟩) | h
  · exact .inl (.inl (k a _ (ne_of h z (by intro e; cases e)) h))
  · exact .inl (.inr ⟨o, k a _ (ne_of h z (by intro e; cases e)) h⟩)
  · exact .inr h
end

/-! ### the urn: three ints of which only bounds are known -/
def UrnPhi (u : Addr) (p : Int → Int → Int → Prop) (h : Heap) : Prop :=
  ∃ (its : List Value) (m : Nat) (a b c : Int), Vals [V.int a, .int b, .int c] its ∧ h.get? u = some { cls := .type "list", data := .seq its.toArray m } ∧ p a b c
def UrnO (u : Addr) (p : Int → Int → Int → Prop) : HO := .ext (UrnPhi u p)
section
variable {X : Cx} {pins : List (Addr × Obj)} {σ : L2.St} {H : Hp} {s : Shared} {u : Addr} {o : HO} {p : Int → Int → Int → Prop}
theorem inv_conv (I : Inv X pins σ H s) (mu : Mut (H u)) (there : ∃ ob, s.heap.get? u = some ob) (new : ObjOk X.prog X.w (upd H u o) s.heap u o) : Inv X pins σ (upd H u o) s :=
  I.write (h' := s.heap) (t' := s.toks) mu (.inl rfl) (fun _ _ _ e => e) there new
theorem inv_open (I : Inv X pins σ H s) (h : H u = some (UrnO u p)) : ∃ a b c : Int, p a b c ∧ Inv X pins σ (upd H u (.lst [.int a, .int b, .int c])) s := by
  obtain ⟨⟨its, m, a, b, c, r, e, hp⟩, _, _⟩ := I.hok u _ h
  exact ⟨a, b, c, hp, inv_conv I (by rw [h]; trivial) ⟨_, e⟩ ⟨by show 3 ≤ sizeLine; decide, its, m, r, e⟩⟩
theorem inv_close (I : Inv X pins σ H s) {a b c : Int} (h : H u = some (.lst [.int a, .int b, .int c])) (hp : p a b c) : Inv X pins σ (upd H u (UrnO u p)) s := by
  obtain ⟨_, its, m, r, e⟩ := I.hok u _ h
  refine inv_conv I (by rw [h]; trivial) ⟨_, e⟩ ⟨⟨its, m, a, b, c, r, e, hp⟩, ⟨_, e⟩, ?_⟩
  rintro h1 h2 ⟨its, m, a, b, c, r, e, hp⟩ k
  exact ⟨its, m, a, b, c, r, k _ e, hp⟩
def tOpen (u : Addr) (p : Int → Int → Int → Prop) (t : TS) : TS := fun D σ H => H u = some (UrnO u p) ∧ ∀ a b c H1, p a b c → H1 u = some (.lst [.int a, .int b, .int c]) → Kp u H H1 → t D σ H1
theorem pss_open {sts : List Stmt} {t : TS} (u : Addr) (p : Int → Int → Int → Prop) (h : PSs X sts t) : PSs X sts (tOpen u p t) := ⟨fun pins s σ H D I q => by
  obtain ⟨hu, q⟩ := q
  obtain ⟨a, b, c, hp, I1⟩ := inv_open I hu
  exact h.run pins s σ _ D I1 (q a b c _ hp upd_same (fun x o n e => by rw [upd_ne n]; exact e))⟩
/-- return e, the urn closed again -/
def tRetU (te : TE) : TS := fun D σ H => te σ H fun v H1 => ∃ (u : Addr) (p : Int → Int → Int → Prop) (a b c : Int), H1 u = some (.lst [.int a, .int b, .int c]) ∧ p a b c ∧ ∀ H2, H2 u = some (UrnO u p) → Kp u H1 H2 → D.rt v H2
theorem ps_retU {e : Expr} {te : TE} {pos : Pos} (he : PE X e te) : PS X (.Return (some e) pos) (tRetU te) := by
  refine ⟨fun pins s σ H D I h => ?_⟩
  refine wpAny_Return_some (thn (he.run pins s σ H _ I h) fun v s1 ⟨x, H1, I1, r1, q1⟩ => ?_)
  obtain ⟨u, p, a, b, c, hu, hp, q⟩ := q1
  exact ⟨x, σ, _, inv_close I1 hu hp, r1, q _ upd_same (fun y o n e => by rw [upd_ne n]; exact e)⟩
end
section
variable {K : PySem.W.Frag} {σ : L2.St} {H : Hp} {Q : VK} {x y v : V} {ta tb te : TE} {D : Ends} {tr : TA} {p : Addr} {xs : List V}
theorem g_ixL {i : Int} (h : SqL K H p xs) (ha : atI xs i = some v) (q : Q v H) : rIxL K (.ref p) (.int i) H Q := ⟨p, xs, i, v, rfl, rfl, h, ha, q⟩
theorem g_ixT {i : Int} (h : SqT K H p xs) (ha : atI xs i = some v) (q : Q v H) : rIxT K (.ref p) (.int i) H Q := ⟨p, xs, i, v, rfl, rfl, h, ha, q⟩
theorem g_getL {i : Int} (h : SqL K H p xs) (h0 : 0 ≤ i) (ha : xs[i.toNat]? = some v) (q : Q v H) : rGetL K (.ref p) (.int i) H Q := ⟨p, xs, i, v, rfl, rfl, h, h0, ha, q⟩
theorem g_retU (h : te σ H fun v H1 => ∃ (u : Addr) (p : Int → Int → Int → Prop) (a b c : Int), H1 u = some (.lst [.int a, .int b, .int c]) ∧ p a b c ∧ ∀ H2, H2 u = some (UrnO u p) → Kp u H1 H2 → D.rt v H2) : tRetU te D σ H := h
theorem g_setL {i : Int} {j : Nat} {R : Hp → Prop} (h : H p = some (.lst xs)) (hi : ixN xs.length i = some j) (q : ∀ H2, H2 p = some (.lst (xs.set j v)) → Kp p H H2 → R H2) : rSetL (.ref p) (.int i) v H R :=
  ⟨p, xs, i, j, rfl, rfl, h, hi, q _ upd_same (fun x o n e => by rw [upd_ne n]; exact e)⟩
theorem g_sub {ti : TE} {ts : TSet} {R : L2.St → Hp → Prop} (h : ta σ H fun o H1 => ti σ H1 fun i H2 => ts o i x H2 fun H3 => R σ H3) : gSub ta ti ts x σ H R := h
theorem g_augS {ti : TE} {tget : V → V → Hp → VK → Prop} {tip : TIp} {ts : TSet} (h : ta σ H fun o H1 => ti σ H1 fun i H2 => tget o i H2 fun x H3 => te σ H3 fun y H4 => tip x y H4 fun z H5 => ts o i z H5 fun H6 => D.nx σ H6) : tAugS ta ti te tget tip ts D σ H := h
/-- a new object -/
theorem g_newL (h : xs.length ≤ sizeLine) (q : ∀ p H2, H p = none → Ex H H2 → H2 p = some (.lst xs) → Q (.ref p) H2) : NewL Q xs H := ⟨h, fun p np => q p _ np (Ex.new np) upd_same⟩
theorem g_newT (h : xs.length ≤ sizeLine) (q : ∀ p H2, H p = none → Ex H H2 → H2 p = some (.tup xs) → Q (.ref p) H2) : NewT Q xs H := ⟨h, fun p np => q p _ np (Ex.new np) upd_same⟩
theorem small_sz {n : Nat} (h : n ≤ 1000 := by decide) : n ≤ sizeLine := Nat.le_trans h (by decide)
end
/-! ### the draws of the first laws -/
theorem lot_bound {x M c : Int} (hM : 0 < M) (h2 : M ≤ 2 ^ 130) (hc : 0 ≤ c) (hc2 : c ≤ 100001) : (x % M + 15485863 * c * c).natAbs < 2 ^ 140 := by
  have a := Int.emod_nonneg x (show M ≠ 0 by omega)
  have b := Int.emod_lt_of_pos x hM
  have e : 0 ≤ c * c := Int.mul_nonneg hc hc
  have f : c * c ≤ 100001 * 100001 := Int.mul_le_mul hc2 hc2 hc (by decide)
  rw [Int.mul_assoc]
  omega

/-! ### the urn behind n draws at most -/
abbrev UP := Nat → Int → Int → Int → Prop
def UA (p : UP) (u : Addr) (n : Nat) (H : Hp) : Prop := ∃ m, m ≤ n ∧ H u = some (UrnO u (p m))
section
variable {p : UP} {u : Addr} {n m : Nat} {H H' : Hp}
theorem UA.mono (h : UA p u n H) (e : n ≤ m) : UA p u m H := let ⟨k, a, b⟩ := h; ⟨k, by omega, b⟩
theorem UA.ix (h : UA p u n H) : IsX u H := let ⟨_, _, b⟩ := h; ⟨_, b⟩
theorem UA.ex (h : UA p u n H) (e : Ex H H') : UA p u n H' := let ⟨k, a, b⟩ := h; ⟨k, a, e _ _ b⟩
theorem UA.ex' (e : Ex H H') (h : UA p u n H) : UA p u n H' := h.ex e
theorem UA.ne (h : UA p u n H) {x : Addr} (e : H x = none) : x ≠ u := let ⟨_, _, b⟩ := h; fun z => by rw [z, b] at e; cases e
theorem UA.nel (h : UA p u n H) {x : Addr} {xs : List V} (e : H x = some (.lst xs)) : x ≠ u := let ⟨_, _, b⟩ := h; ne_of e b (by intro z; cases z)
theorem UA.upd (h : UA p u n H) {x : Addr} {o : HO} (e : x ≠ u) : UA p u n (upd H x o) := let ⟨k, a, b⟩ := h; ⟨k, a, by rw [upd_ne e.symm]; exact b⟩
theorem Kp.upd {x : Addr} {o : HO} {H0 : Hp} (k : Kp u H0 H) (e : H0 x = none) : Kp u H0 (upd H x o) := fun y z n h => by
  rw [upd_ne (ne_of_none h e)]
  exact k y z n h
theorem UA.nil (h : UA p u n H) (k : Kp u H H') (h2 : UA p u m H') {x : Addr} (e : H' x = none) : H x = none := k.fresh h.ix e h2.ix
end
theorem ex_lst {H H' : Hp} {a : Addr} {o : HO} (e : Ex H H') (h : H a = some o) : H' a = some o := e _ _ h

/-! ### loops and comprehensions, step by step -/
section
variable {K : PySem.W.Frag} {σ : L2.St} {H : Hp} {Q : VK} {x y v : V} {ta tb te : TE} {tt : TT} {D : Ends} {tr : TA} {p : Addr} {xs : List V} {g : TG} {tb' : TS}
theorem g_iR1 {R : It → Hp → Prop} (h : tr σ H fun vs H1 => ∃ j : Int, vs = [.int j] ∧ -(2 ^ 62) ≤ j ∧ j < 2 ^ 62 ∧ R (Itr 0 j.toNat) H1) : iRng1 tr σ H R := h
theorem g_iL {R : It → Hp → Prop} (h : te σ H fun x H1 => ∃ a, x = .ref a ∧ (∃ xs, SqL K H1 a xs) ∧ R (Itl K a) H1) : iList K te σ H R := h
theorem g_iT {R : It → Hp → Prop} (h : te σ H fun x H1 => ∃ a, x = .ref a ∧ (∃ xs, SqT K H1 a xs) ∧ R (Itt K a) H1) : iTup K te σ H R := h
theorem g_iE {R : It → Hp → Prop} (h : tr σ H fun vs H1 => ∃ a xs, vs = [.ref a] ∧ SqL K H1 a xs ∧ R (Ite K a) H1) : iEnum K tr σ H R := h
theorem g_iZ {R : It → Hp → Prop} (h : tr σ H fun vs H1 => ∃ a b xs ys, vs = [.ref a, .ref b] ∧ ((SqL K H1 a xs ∧ SqL K H1 b ys ∧ R (Itz K a b) H1) ∨ (SqT K H1 a xs ∧ SqT K H1 b ys ∧ R (RZ.ItzT K a b) H1))) : RZ.iZipA K tr σ H R := h
/-- a loop: what its walk is, then the walk's own lemma -/
theorem g_for {wi : TI} (h : wi σ H fun J H1 => ∃ W : Nat → Nat → L2.St → Hp → Prop, (∃ m, W 0 m σ H1) ∧ ∀ i m σ H, W i m σ H →
    (J.stop i H ∧ D.nx σ H) ∨ (J.go i H ∧ ∃ N : L2.St → Hp → Prop, (∀ σ' H', N σ' H' → ∃ m', m' < m ∧ W (i + 1) m' σ' H') ∧ ∀ x H', J.yld i H x H' → g x σ H' fun σ2 H2 => tb' { D with nx := N, ct := N, bk := D.nx } σ2 H2)) : tFor wi g tb' D σ H := h
theorem g_lc {wi : TI} {vs : List Nat} (h : wi σ H fun J H1 => ∀ D, H1 D = none → ∃ W : Nat → Nat → Hp → Prop, (∃ m, W 0 m (upd H1 D (.lst []))) ∧ ∀ i m H, W i m H →
    (J.stop i H ∧ Q (.ref D) H) ∨ (J.go i H ∧ ∃ Nx : Hp → Prop, (∀ H', Nx H' → ∃ m', m' < m ∧ W (i + 1) m' H') ∧ ∀ x H', J.yld i H x H' → g x (wipe σ vs) H' fun σ2 H2 => wipe σ2 vs = wipe σ vs ∧ tt σ2 H2 fun b H3 =>
      if b = true then te σ2 H3 fun y H4 => ∃ acc, H4 D = some (.lst acc) ∧ acc.length < sizeLine ∧ Nx (upd H4 D (.lst (acc ++ [y]))) else Nx H3)) : tLc wi g tt te vs σ H Q := h
/-- enumerate(a list) -/
theorem for_enum {a : Addr} (Pv : Nat → L2.St → Hp → Prop) (h0 : Pv 0 σ H) (hl : ∀ i σ H, i ≤ xs.length → Pv i σ H → SqL K H a xs)
    (hs : ∀ i x T σ H H1, xs[i]? = some x → Pv i σ H → H T = none → Ex H H1 → H1 T = some (.tup [.int (i : Nat), x]) → g (.ref T) σ H1 fun σ2 H2 => tb' { D with nx := Pv (i + 1), ct := Pv (i + 1), bk := D.nx } σ2 H2) (hd : ∀ σ H, Pv xs.length σ H → D.nx σ H) :
    ∃ W : Nat → Nat → L2.St → Hp → Prop, (∃ m, W 0 m σ H) ∧ ∀ i m σ H, W i m σ H →
      ((Ite K a).stop i H ∧ D.nx σ H) ∨ ((Ite K a).go i H ∧ ∃ N : L2.St → Hp → Prop, (∀ σ' H', N σ' H' → ∃ m', m' < m ∧ W (i + 1) m' σ' H') ∧ ∀ x H', (Ite K a).yld i H x H' → g x σ H' fun σ2 H2 => tb' { D with nx := N, ct := N, bk := D.nx } σ2 H2) := by
  refine ⟨fun i m σ H => m = xs.length - i ∧ i ≤ xs.length ∧ Pv i σ H, ⟨xs.length, rfl, Nat.zero_le _, h0⟩, ?_⟩
  rintro i m σ H ⟨rfl, hi, q⟩
  have qx := hl i σ H hi q
  by_cases hlt : i < xs.length
  · have hx : xs[i]? = some xs[i] := List.getElem?_eq_getElem hlt
    refine .inr ⟨⟨xs, _, qx, hx⟩, Pv (i + 1), fun σ' H' q' => ⟨xs.length - (i + 1), by omega, rfl, hlt, q'⟩, fun v H' y => ?_⟩
    obtain ⟨T, x', rfl, hT, rfl, f1⟩ := y
    exact hs i x' T σ H _ (f1 xs qx) q hT (Ex.new hT) upd_same
  · have e : i = xs.length := by omega
    subst e
    exact .inl ⟨⟨xs, qx, Nat.le_refl _⟩, hd σ H q⟩
/-- [e for k in range(n)] with a word over what has been made -/
theorem lcR {lo : Int} {n j : Nat} {vs : List Nat} {H1 : Hp} {Dl : Addr} {Qd : Hp → Prop} (Pv : Nat → List V → Hp → Prop) (hn : n ≤ 100000) (hD : H1 Dl = none) (h0 : Pv 0 [] H1) (hup : ∀ i acc H o, Pv i acc H → Pv i acc (upd H Dl o))
    (hw : ∀ x, wipe ((wipe σ vs).set j (some x)) vs = wipe σ vs)
    (hs : ∀ i acc H (R : VK), i < n → acc.length = i → H Dl = some (.lst acc) → Pv i acc H → (∀ y H4, H4 Dl = some (.lst acc) → Pv (i + 1) (acc ++ [y]) H4 → R y H4) → te ((wipe σ vs).set j (some (.int (lo + i)))) H R)
    (hd : ∀ H acc, acc.length = n → H Dl = some (.lst acc) → Pv n acc H → Qd H) :
    ∃ W : Nat → Nat → Hp → Prop, (∃ m, W 0 m (upd H1 Dl (.lst []))) ∧ ∀ i m H, W i m H →
      ((Itr lo n).stop i H ∧ Qd H) ∨ ((Itr lo n).go i H ∧ ∃ Nx : Hp → Prop, (∀ H', Nx H' → ∃ m', m' < m ∧ W (i + 1) m' H') ∧ ∀ x H', (Itr lo n).yld i H x H' → gName j x (wipe σ vs) H' fun σ2 H2 => wipe σ2 vs = wipe σ vs ∧ tYes σ2 H2 fun b H3 =>
        if b = true then te σ2 H3 fun y H4 => ∃ acc, H4 Dl = some (.lst acc) ∧ acc.length < sizeLine ∧ Nx (upd H4 Dl (.lst (acc ++ [y]))) else Nx H3) := by
  refine ⟨fun i m H => m = n - i ∧ i ≤ n ∧ ∃ acc, acc.length = i ∧ H Dl = some (.lst acc) ∧ Pv i acc H, ⟨n, by simp, Nat.zero_le _, [], rfl, upd_same, hup _ _ _ _ h0⟩, ?_⟩
  rintro i m H ⟨rfl, hi, acc, ha, hD', q⟩
  by_cases hlt : i < n
  · refine .inr ⟨hlt, fun H' => ∃ acc, acc.length = i + 1 ∧ H' Dl = some (.lst acc) ∧ Pv (i + 1) acc H', fun H' q' => ⟨n - (i + 1), by omega, rfl, hlt, q'⟩, fun x H' y => ?_⟩
    obtain ⟨e1, e2⟩ := y
    subst e1 e2
    refine ⟨hw _, ?_⟩
    show te ((wipe σ vs).set j (some (.int (lo + i)))) H' _
    refine hs i acc H' _ hlt ha hD' q fun y H4 h4 q4 => ⟨acc, h4, Nat.lt_of_lt_of_le (by omega) (show 100000 ≤ sizeLine by decide), acc ++ [y], by rw [List.length_append, ha] <;> rfl, upd_same, hup _ _ _ _ q4⟩
  · have e : i = n := by omega
    subst e
    exact .inl ⟨Nat.le_refl _, hd H acc ha hD' q⟩
end

/-! ### items at a drawn place -/
theorem atI_mem {α : Type} {xs : List α} {i : Int} (h0 : 0 ≤ i) (h1 : i < xs.length) : ∃ v, atI xs i = some v ∧ v ∈ xs := by
  obtain ⟨j, rfl⟩ : ∃ j : Nat, i = (j : Int) := ⟨i.toNat, by omega⟩
  have hl : j < xs.length := by omega
  exact ⟨xs[j], atI_nat (List.getElem?_eq_getElem hl), List.getElem_mem hl⟩
section
variable {K : PySem.W.Frag} {H : Hp} {Q : VK} {p : Addr} {xs : List V} {i : Int}
theorem g_ixLm (h : SqL K H p xs) (h0 : 0 ≤ i) (h1 : i < xs.length) (q : ∀ v, v ∈ xs → Q v H) : rIxL K (.ref p) (.int i) H Q := let ⟨v, a, b⟩ := atI_mem h0 h1; ⟨p, xs, i, v, rfl, rfl, h, a, q v b⟩
theorem g_ixTm (h : SqT K H p xs) (h0 : 0 ≤ i) (h1 : i < xs.length) (q : ∀ v, v ∈ xs → Q v H) : rIxT K (.ref p) (.int i) H Q := let ⟨v, a, b⟩ := atI_mem h0 h1; ⟨p, xs, i, v, rfl, rfl, h, a, q v b⟩
theorem g_ixSm {z : Str} (hz : z.length ≤ sizeLine) (h0 : 0 ≤ i) (h1 : i < z.cps.toList.length) (q : ∀ c, c ∈ z.cps.toList → Q (.str ⟨#[c]⟩) H) : rIxS (.str z) (.int i) H Q := let ⟨c, a, b⟩ := atI_mem h0 h1; ⟨z, i, c, rfl, rfl, hz, a, q c b⟩
end
/-- each of a written list's items is so, by a look -/
theorem all_mem {P : V → Bool} {xs : List V} (h : xs.all P = true) {v : V} (m : v ∈ xs) : P v = true := List.all_eq_true.mp h v m

/-! ### names -/
def nmL (l : List Nat) : Bool := decide (1 ≤ l.length) && decide (l.length ≤ 8) && l.all fun c => decide (97 ≤ c) && decide (c ≤ 122)
def IsNm (x : Str) : Prop := nmL x.cps.toList = true
def nmV : V → Bool
  | .str x => nmL x.cps.toList
  | _ => false
theorem nmV_is {v : V} (h : nmV v = true) : ∃ x, v = .str x ∧ IsNm x := by
  cases v <;> first | exact ⟨_, rfl, h⟩ | cases h
theorem IsNm.len {x : Str} (h : IsNm x) : 1 ≤ x.length ∧ x.length ≤ 8 := by
  unfold IsNm nmL at h
  simp only [Bool.and_eq_true, decide_eq_true_eq] at h
  rw [TL.len_tl x]
  exact h.1
theorem joinL_nil : ∀ l : List (List Nat), TL.joinL [] l = l.flatten
  | [] => rfl
  | [p] => by rw [List.flatten_cons, List.flatten_nil, List.append_nil] <;> rfl
  | p :: q :: r => by
    show p ++ ([] ++ TL.joinL [] (q :: r)) = _
    rw [joinL_nil (q :: r)] <;> simp
theorem nm_join {ys : List Str} {l : List Nat} (h : ys.map TL.tl = l.map fun c => [c]) (h1 : 1 ≤ ys.length) (h8 : ys.length ≤ 8) (hc : ∀ c ∈ l, 97 ≤ c ∧ c ≤ 122) : IsNm (Txt.join Str.empty ys) := by
  have e : TL.tl (Txt.join Str.empty ys) = l := by
    have z := TL.tl_join Str.empty ys
    rw [← TL.join_eq] at z
    refine z.trans ?_
    rw [h]
    show TL.joinL [] (l.map fun c => [c]) = l
    rw [joinL_nil]
    induction l with
    | nil => rfl
    | cons c r ih => rw [List.map_cons, List.flatten_cons, show (List.map (fun c => [c]) r).flatten = r from by
        clear ih h z
        clear h1 h8 hc
        induction r with
        | nil => rfl
        | cons d q ih => rw [List.map_cons, List.flatten_cons, ih] <;> rfl] <;> rfl
  unfold IsNm
  show nmL (TL.tl (Txt.join Str.empty ys)) = true
  rw [e]
  have hl : ys.length = l.length := by
    have z := congrArg List.length h
    simpa using z
  unfold nmL
  simp only [Bool.and_eq_true, decide_eq_true_eq, List.all_eq_true]
  exact ⟨⟨by omega, by omega⟩, fun c m => ⟨(hc c m).1, (hc c m).2⟩⟩
theorem letters_ok {c : Nat} (h : c ∈ (Str.ofString "abcdefghijklmnopqrstuvwxyz").cps.toList) : 97 ≤ c ∧ c ≤ 122 := by
  have z := List.all_eq_true.mp (show (Str.ofString "abcdefghijklmnopqrstuvwxyz").cps.toList.all (fun c => decide (97 ≤ c) && decide (c ≤ 122)) = true by decide +kernel) c h
  simpa using z
theorem ones_sum : ∀ l : List Nat, ((l.map fun c => (⟨#[c]⟩ : Str)).map (·.length)).sum = l.length
  | [] => rfl
  | c :: r => by
    rw [List.map_cons, List.map_cons, List.sum_cons, ones_sum r, List.length_cons]
    show 1 + r.length = r.length + 1
    omega
theorem ones_tl (l : List Nat) : (l.map fun c => (⟨#[c]⟩ : Str)).map TL.tl = l.map fun c => [c] := by
  rw [List.map_map]
  rfl
theorem ones_V (l : List Nat) : (l.map fun c => (⟨#[c]⟩ : Str)).map V.str = l.map fun c => V.str ⟨#[c]⟩ := by
  rw [List.map_map]
  rfl

/-! ### zip -/
def ItzG (Sa Sb : Hp → List V → Prop) : It :=
  ⟨fun i H => ∃ (xs ys : List V) (x y : V), Sa H xs ∧ Sb H ys ∧ xs[i]? = some x ∧ ys[i]? = some y,
    fun i H v H' => ∃ T x y, v = .ref T ∧ H T = none ∧ H' = upd H T (.tup [x, y]) ∧ (∀ xs, Sa H xs → xs[i]? = some x) ∧ ∀ ys, Sb H ys → ys[i]? = some y,
    fun i H => ∃ xs ys : List V, Sa H xs ∧ Sb H ys ∧ (xs.length ≤ i ∨ ys.length ≤ i)⟩
/-- [e for x, y in zip(a, b)], no test -/
theorem lcZ {K : PySem.W.Frag} {Sa Sb : Hp → List V → Prop} {xs ys : List V} {j1 j2 : Nat} {te : TE} {vs : List Nat} {σ : L2.St} {H1 : Hp} {Dl : Addr} {Qd : Hp → Prop} (Pv : Nat → List V → Hp → Prop) (hl : xs.length = ys.length) (hn : xs.length ≤ 100000) (hD : H1 Dl = none)
    (h0 : Pv 0 [] H1) (hup : ∀ i acc H o, Pv i acc H → Pv i acc (upd H Dl o)) (hex : ∀ i acc H H', Ex H H' → Pv i acc H → Pv i acc H') (hq : ∀ i acc H, Pv i acc H → Sa H xs ∧ Sb H ys)
    (hw : ∀ x y, wipe (((wipe σ vs).set j1 (some x)).set j2 (some y)) vs = wipe σ vs)
    (hs : ∀ i x y acc H (R : VK), xs[i]? = some x → ys[i]? = some y → acc.length = i → H Dl = some (.lst acc) → Pv i acc H → (∀ z H4, H4 Dl = some (.lst acc) → Pv (i + 1) (acc ++ [z]) H4 → R z H4) → te (((wipe σ vs).set j1 (some x)).set j2 (some y)) H R)
    (hd : ∀ H acc, acc.length = xs.length → H Dl = some (.lst acc) → Pv xs.length acc H → Qd H) :
    ∃ W : Nat → Nat → Hp → Prop, (∃ m, W 0 m (upd H1 Dl (.lst []))) ∧ ∀ i m H, W i m H →
      ((ItzG Sa Sb).stop i H ∧ Qd H) ∨ ((ItzG Sa Sb).go i H ∧ ∃ Nx : Hp → Prop, (∀ H', Nx H' → ∃ m', m' < m ∧ W (i + 1) m' H') ∧ ∀ x H', (ItzG Sa Sb).yld i H x H' → gTup K 2 (gCons (gName j1) (gCons (gName j2) gNil)) x (wipe σ vs) H' fun σ2 H2 => wipe σ2 vs = wipe σ vs ∧ tYes σ2 H2 fun b H3 =>
        if b = true then te σ2 H3 fun y H4 => ∃ acc, H4 Dl = some (.lst acc) ∧ acc.length < sizeLine ∧ Nx (upd H4 Dl (.lst (acc ++ [y]))) else Nx H3) := by
  refine ⟨fun i m H => m = xs.length - i ∧ i ≤ xs.length ∧ ∃ acc, acc.length = i ∧ H Dl = some (.lst acc) ∧ Pv i acc H, ⟨xs.length, by simp, Nat.zero_le _, [], rfl, upd_same, hup _ _ _ _ h0⟩, ?_⟩
  rintro i m H ⟨rfl, hi, acc, ha, hD', q⟩
  obtain ⟨qa, qb⟩ := hq i acc H q
  by_cases hlt : i < xs.length
  · have hx : xs[i]? = some xs[i] := List.getElem?_eq_getElem hlt
    have hlt2 : i < ys.length := by omega
    have hy : ys[i]? = some ys[i] := List.getElem?_eq_getElem hlt2
    refine .inr ⟨⟨xs, ys, _, _, qa, qb, hx, hy⟩, fun H' => ∃ acc, acc.length = i + 1 ∧ H' Dl = some (.lst acc) ∧ Pv (i + 1) acc H', fun H' q' => ⟨xs.length - (i + 1), by omega, rfl, hlt, q'⟩, fun v H' y => ?_⟩
    obtain ⟨T, x', y', rfl, hT, rfl, f1, f2⟩ := y
    refine ⟨T, [x', y'], rfl, .inl (.inl upd_same), rfl, x', [y'], rfl, y', [], rfl, rfl, hw _ _, ?_⟩
    show te (((wipe σ vs).set j1 (some x')).set j2 (some y')) (upd H T (.tup [x', y'])) _
    refine hs i x' y' acc _ _ (f1 xs qa) (f2 ys qb) ha (Ex.new hT _ _ hD') (hex _ _ _ _ (Ex.new hT) q) fun y H4 h4 q4 => ⟨acc, h4, Nat.lt_of_lt_of_le (by omega) (show 100000 ≤ sizeLine by decide), acc ++ [y], by rw [List.length_append, ha] <;> rfl, upd_same, hup _ _ _ _ q4⟩
  · have e : i = xs.length := by omega
    subst e
    exact .inl ⟨⟨xs, ys, qa, qb, .inl (Nat.le_refl _)⟩, hd H acc ha hD' q⟩

/-! ### texts of numbers and of texts -/
def partS : V → Str
  | .str x => x
  | .int i => toString i
  | _ => Str.empty
/-- a text of at most 100 signs, or a number below 2 ^ 100 -/
def partB : V → Bool
  | .str x => decide (x.length ≤ 100)
  | .int i => decide (i.natAbs < 2 ^ 100)
  | _ => false
theorem partB_is {v : V} (h : partB v = true) : (∃ x : Str, v = .str x ∧ x.length ≤ 100) ∨ ∃ i : Int, v = .int i ∧ i.natAbs < 2 ^ 100 := by
  cases v <;> first
    | exact .inl ⟨_, rfl, of_decide_eq_true h⟩
    | exact .inr ⟨_, rfl, of_decide_eq_true h⟩
    | cases h
theorem numlen {i : Int} (h : i.natAbs < 2 ^ 100) : (Str.ofString (toString i)).length ≤ 101 := by
  have e := int_text_length_le (a := i) (k := 100) (by decide) (PySem.Flt.log2_lt_of (by decide) h)
  rw [PySem.ofString_length]
  exact e
theorem str_len_append (x y : Str) : (x ++ y).length = x.length + y.length := by
  rw [TL.len_tl, TL.len_tl, TL.len_tl, TL.tl_append, List.length_append]
/-- a word, a blank, a part -/
def pairS (w : Str) (p : V) : Str := ((Str.empty ++ w) ++ Str.ofString " ") ++ partS p
theorem partS_len {p : V} (h : partB p = true) : (partS p).length ≤ 101 := by
  rcases partB_is h with ⟨x, rfl, hx⟩ | ⟨i, rfl, hi⟩
  · exact Nat.le_succ_of_le hx
  · exact numlen hi

section
variable {X : Cx}
def tJoin (ts : List TE) : TE := fun σ H Q => tJs ts Str.empty σ H fun out H1 => Q (.str out) H1
theorem pe_joinN {v1 v2 : Expr} {rest : List Expr} {ts : List TE} {pos : Pos} (h : PJ X (v1 :: v2 :: rest) ts) : PE X (.JoinedStr (v1 :: v2 :: rest) pos) (tJoin ts) := pe_joined h
def tTru (K : PySem.W.Frag) (ta : TE) : TT := fun σ H Q => ta σ H fun x H' => ∃ k, TruV K x H' k ∧ Q k H'
theorem pt_tru {a : Expr} {ta : TE} (ha : PE X a ta) (he : ∀ whole, isTrue a X.env whole = (do let v ← whole; standAt a.pos; holding [v] (truthy v))) : PT X a (tTru X.K ta) := pt_truth ha he
end
section
variable {K : PySem.W.Frag} {σ : L2.St} {H : Hp} {Q : VK} {QS : Str → Hp → Prop} {te : TE} {t : TE} {ts : List TE} {acc : Str}
theorem g_join (h : tJs ts Str.empty σ H fun out H1 => Q (.str out) H1) : tJoin ts σ H Q := h
theorem g_js0 (h : QS acc H) : tJs [] acc σ H QS := h
theorem g_js (h : t σ H fun x H1 => ∃ y : Str, x = .str y ∧ (acc ++ y).length ≤ sizeLine ∧ tJs ts (acc ++ y) σ H1 QS) : tJs (t :: ts) acc σ H QS := h
theorem g_fmt (h : te σ H fun x H1 => (∃ y : Str, x = .str y ∧ y.length ≤ sizeLine ∧ Q (.str y) H1) ∨ ∃ i : Int, x = .int i ∧ i.natAbs.log2 < 1920 ∧ Q (.str (toString i)) H1) : tFmt te σ H Q := h
end
theorem zw_get {ws : List Str} {ps : List V} {i : Nat} {w : Str} {p : V} (h1 : ws[i]? = some w) (h2 : ps[i]? = some p) : ((List.zipWith pairS ws ps).take (i + 1)).map V.str = ((List.zipWith pairS ws ps).take i).map V.str ++ [.str (pairS w p)] := by
  have e : (List.zipWith pairS ws ps)[i]? = some (pairS w p) := by rw [List.getElem?_zipWith, h1, h2]
  rw [List.take_add_one, e, List.map_append]
  rfl
theorem pairS_len {w : Str} {p : V} (hw : w.length ≤ 100) (hp : partB p = true) : (pairS w p).length ≤ 202 := by
  have h := partS_len hp
  have e : (Str.ofString " ").length = 1 := by decide +kernel
  have e0 : Str.empty.length = 0 := by decide +kernel
  unfold pairS
  rw [str_len_append, str_len_append, str_len_append, e, e0]
  omega
theorem zw_len {ws : List Str} {ps : List V} (hw : ∀ x ∈ ws, x.length ≤ 100) (hp : ps.all partB = true) : ∀ x ∈ List.zipWith pairS ws ps, x.length ≤ 202 := by
  intro x hx
  obtain ⟨i, hi⟩ := List.getElem?_of_mem hx
  rw [List.getElem?_zipWith] at hi
  cases e1 : ws[i]? with
  | none => rw [e1] at hi; cases hi
  | some w =>
    cases e2 : ps[i]? with
    | none => rw [e1, e2] at hi; cases hi
    | some p =>
      rw [e1, e2] at hi
      cases hi
      exact pairS_len (hw w (List.mem_of_getElem? e1)) (all_mem hp (List.mem_of_getElem? e2))
theorem sum_le_of {l : List Nat} {b : Nat} (h : ∀ x ∈ l, x ≤ b) : l.sum ≤ l.length * b := by
  induction l with
  | nil => simp
  | cons a r ih =>
    have h1 := h a (List.mem_cons_self ..)
    have h2 := ih fun x m => h x (List.mem_cons_of_mem _ m)
    rw [List.sum_cons, List.length_cons, Nat.succ_mul]
    omega
theorem lens_sum {ys : List Str} {b : Nat} (h : ∀ x ∈ ys, x.length ≤ b) : (ys.map (·.length)).sum ≤ ys.length * b := by
  have e := sum_le_of (l := ys.map (·.length)) (b := b) (fun x m => by
    obtain ⟨y, hy, rfl⟩ := List.mem_map.mp m
    exact h y hy)
  rw [List.length_map] at e
  exact e
theorem sz_app {x y : Str} {a b : Nat} (hx : x.length ≤ a) (hy : y.length ≤ b) (h : a + b ≤ 1000 := by decide) : (x ++ y).length ≤ sizeLine := by
  rw [str_len_append]
  exact small_sz (by omega)
theorem len_app {x y : Str} {a b : Nat} (hx : x.length ≤ a) (hy : y.length ≤ b) : (x ++ y).length ≤ a + b := by
  rw [str_len_append]
  omega
theorem e0_len : Str.empty.length ≤ 0 := by decide +kernel
theorem e1_len : (Str.ofString " ").length ≤ 1 := by decide +kernel
theorem log_ok {i : Int} (h : i.natAbs < 2 ^ 100) : i.natAbs.log2 < 1920 := Nat.lt_of_lt_of_le (PySem.Flt.log2_lt_of (by decide) h) (by decide)

section
variable {K : PySem.W.Frag} {σ : L2.St} {H : Hp} {Q : VK} {x : V} {p : Addr} {xs ys : List V} {R : L2.St → Hp → Prop}
theorem g_isi {t : Value} {n : String} {b : Bool} (ty : TyX K H x t) (k : PySem.W.kitOne K t (.type n) = some b) (q : Q (.bl b) H) : rIsi K [x, .ty n] H Q := ⟨x, .ty n, t, .type n, b, rfl, .ty n, ty, k, q⟩
theorem g_slT {lo hi : Option Int} (h : SqT K H p xs) (hn : ¬ (HT.sIx xs.length 0 lo = 0 ∧ HT.sIx xs.length xs.length hi = xs.length)) (hy : cutV xs lo hi = ys) (q : ∀ p2 H2, H p2 = none → Ex H H2 → H2 p2 = some (.tup ys) → Q (.ref p2) H2) : rSlT K (.ref p) lo hi H Q := by
  subst hy
  exact ⟨p, xs, rfl, h, hn, fun p2 np => q p2 _ np (Ex.new np) upd_same⟩
theorem g_slL {lo hi : Option Int} (h : SqL K H p xs) (q : ∀ p2 H2, H p2 = none → Ex H H2 → H2 p2 = some (.lst (cutV xs lo hi)) → Q (.ref p2) H2) : rSlL K (.ref p) lo hi H Q := ⟨p, xs, rfl, h, fun p2 np => q p2 _ np (Ex.new np) upd_same⟩
end
theorem joinL_snoc (S x : List Nat) : ∀ {l : List (List Nat)}, l ≠ [] → TL.joinL S (l ++ [x]) = TL.joinL S l ++ (S ++ x)
  | [], h => absurd rfl h
  | [a], _ => rfl
  | a :: b :: r, _ => by
    show a ++ (S ++ TL.joinL S ((b :: r) ++ [x])) = (a ++ (S ++ TL.joinL S (b :: r))) ++ (S ++ x)
    rw [joinL_snoc S x (l := b :: r) (by simp)]
    simp
theorem join_snoc (S x : Str) {l : List Str} (h : l ≠ []) : Txt.join S (l ++ [x]) = Txt.join S l ++ (S ++ x) := by
  refine TL.ext_tl ?_
  rw [TL.tl_append, TL.tl_append, TL.join_eq, TL.join_eq, TL.tl_join, TL.tl_join, List.map_append]
  exact joinL_snoc _ _ (by simpa using h)
theorem app_assoc (x y z : Str) : (x ++ y) ++ z = x ++ (y ++ z) := TL.ext_tl (by simp only [TL.tl_append, List.append_assoc])
theorem empty_app (x : Str) : Str.empty ++ x = x := TL.ext_tl (by rw [TL.tl_append]; rfl)
/-- the law's own way to the same text -/
theorem pairS_eq (w : Str) (p : V) : pairS w p = (w ++ Str.ofString " ") ++ partS p := by
  unfold pairS
  rw [empty_app]
theorem g_callKw {σ : L2.St} {H : Hp} {Q : VK} {m : Nat} {sp : Sp} {t : TA} (h : t σ H fun zs H2 => zs.length = m ∧ sp zs H2 Q E0) : tCallKw m sp t σ H Q := h
theorem sz_add {m n a b : Nat} (hx : m ≤ a) (hy : n ≤ b) (h : a + b ≤ 100000) : m + n ≤ sizeLine := Nat.le_trans (Nat.add_le_add hx hy) (Nat.le_trans h (by decide))
theorem wipe1 {σ : L2.St} {a : Nat} (x : V) : wipe ((wipe σ [a]).set a (some x)) [a] = wipe σ [a] := by
  show ((σ.set a none).set a (some x)).set a none = σ.set a none
  rw [List.set_set, List.set_set]
theorem wipe2 {σ : L2.St} {a b : Nat} (h : a ≠ b) (x y : V) : wipe (((wipe σ [a, b]).set a (some x)).set b (some y)) [a, b] = wipe σ [a, b] := by
  show (((((σ.set b none).set a none).set a (some x)).set b (some y)).set b none).set a none = (σ.set b none).set a none
  rw [List.set_set, List.set_set, List.set_comm _ _ h.symm, List.set_set, List.set_comm _ _ h, List.set_set]
end Lk

namespace Lk
open PySem PySem.Spec PyProof.Rows L2 Evl

/-! ### tables of code objects: they may grow, what is known of them stays -/
def TabPhi (P : Addr) (h : Heap) : Prop := ∃ ps : Array Value, h.get? P = some { cls := .none, data := .fields ps } ∧ TriplesOk ps.toList
def TabO (P : Addr) : HO := .ext (TabPhi P)
/-- the script: a list whose object is known to the sign -/
def SqX (K : PySem.W.Frag) (H : Hp) (a : Addr) (xs : List V) : Prop := Rd H a (.lst xs) ∨ ∃ its : List Value, K.lookup a = some { cls := .type "list", data := .seq its.toArray } ∧ xs.length ≤ sizeLine ∧ Vals xs its
theorem SqX.l {K : PySem.W.Frag} {H : Hp} {a : Addr} {xs : List V} (h : SqX K H a xs) : SqL K H a xs := by
  rcases h with h | ⟨its, e, z, r⟩
  · exact .inl h
  · exact .inr ⟨_, its.toArray, _, e, rfl, rfl, rfl, by rw [List.size_toArray, ← r.length]; exact z, by simpa using r⟩
theorem SqX.ex {K : PySem.W.Frag} {H H' : Hp} {a : Addr} {xs : List V} (e : Ex H H') (h : SqX K H a xs) : SqX K H' a xs := by
  rcases h with h | h
  · exact .inl (ex_rd e h)
  · exact .inr h
section
variable {X : Cx} {pins : List (Addr × Obj)} {σ : L2.St} {H : Hp} {s : Shared} {a : Addr} {xs : List V}
theorem inv_sqx (I : Inv X pins σ H s) (h : SqX X.K H a xs) : xs.length ≤ sizeLine ∧ ∃ (its : List Value) (n : Nat), Vals xs its ∧ s.heap.get? a = some { cls := .type "list", data := .seq its.toArray n } := by
  rcases h with h | ⟨its, e, z, r⟩
  · obtain ⟨z, its, n, r, e⟩ := h.ok I.hok
    exact ⟨z, its, n, r, e⟩
  · exact ⟨z, its, _, r, I.kIn _ _ e⟩
/-- script + a list -/
def rCatX (K : PySem.W.Frag) : R2 := fun x y H Q => ∃ l b xs zs, x = .ref l ∧ y = .ref b ∧ SqX K H l xs ∧ H b = some (.lst zs) ∧ xs.length + zs.length ≤ sizeLine ∧ NewL Q (xs ++ zs) H
theorem op_catX : OpR X (binaryOp .Add) (rCatX X.K) := by
  intro pins s σ H x y v u Q I rx ry h
  obtain ⟨l, b, xs, zs, e1, e2, hL, hB, hz, q⟩ := h
  subst e1
  subst e2
  cases rx
  cases ry
  obtain ⟨z1, its, n, r, e⟩ := inv_sqx I hL
  obtain ⟨z2, its2, n2, r2, e2⟩ := I.hok b _ hB
  have l1 := r.length
  have l2 := r2.length
  refine PySem.P.add_list e e2 ?_ (by rw [List.size_toArray, List.size_toArray]; omega)
  have ea : its.toArray ++ its2.toArray = (its ++ its2).toArray := by simp
  rw [ea]
  exact ⟨.ref _, _, I.lnew (t' := s.toks) (r.append r2) (by rw [List.length_append]; omega), rfl, q.2 _ I.fresh⟩
end

/-! ### the law's call, from its promise -/
section
variable {P : Program} {w : World} {K : PySem.W.Frag} {mg mb : Str → Option Value}
/-- what is tracked as the law is entered: the tables, and the script where the top has not written it -/
def entryH (K : PySem.W.Frag) (ts : List Addr) (a : Addr) (o : Obj) (xs : List V) : Hp := fun b => if b ∈ ts then some (TabO b) else if b = a ∧ K.lookup a = none then some (.frz o (.lst xs)) else none
theorem entry_tab {ts : List Addr} {a : Addr} {o : Obj} {xs : List V} {b : Addr} (h : b ∈ ts) : entryH K ts a o xs b = some (TabO b) := if_pos h
theorem entry_some {ts : List Addr} {a : Addr} {o : Obj} {xs : List V} {b : Addr} {u : HO} (h : entryH K ts a o xs b = some u) : (b ∈ ts ∧ u = TabO b) ∨ (b ∉ ts ∧ b = a ∧ K.lookup a = none ∧ u = .frz o (.lst xs)) := by
  unfold entryH at h
  by_cases hb : b ∈ ts
  · rw [if_pos hb] at h
    exact .inl ⟨hb, (Option.some.inj h).symm⟩
  · rw [if_neg hb] at h
    by_cases hc : b = a ∧ K.lookup a = none
    · rw [if_pos hc] at h
      exact .inr ⟨hb, hc.1, hc.2, (Option.some.inj h).symm⟩
    · rw [if_neg hc] at h
      cases h
theorem lawX {k : Nat} {fa a : Addr} {cs : List (Addr × Addr)} {fd : FuncData} {x : Str} {sp : Sp} {s1 : Shared} {vs : List Value} {ns : List Int}
    (KX : K.In s1.heap) (hns : s1.heap.Ns mainGlobals mg) (hb : s1.heap.Ns builtinsNs mb) (hbb : ∀ x : Str, x ≠ "__name__" → mb x = bootBuiltins x) (hlim : s1.heap.NoLimit) (hg : s1.gens = #[])
    (hT : ∀ p ∈ cs, s1.heap.get? p.2 = some { cls := .none, data := .fields #[] }) (nT : ∀ p ∈ cs, K.lookup p.2 = none) (C : ∀ p ∈ cs, PySem.W.CodeHd s1.heap p.1 p.2)
    (hbm : ∃ (bm : Addr) (ob : Obj), mg "__builtins__" = some (.ref bm) ∧ bm ≠ builtinsNs ∧ s1.heap.get? bm = some ob ∧ ob.cls = .type "module" ∧ ob.dict = some builtinsNs ∧ ob.data = .plain)
    (ha : s1.heap.get? a = some { cls := .type "list", data := .seq vs.toArray }) (hi : IntsAre vs ns) (hl : ns.length ≤ sizeLine) (hr : Room k callerA)
    (F : ∀ base : Heap, K.In base → base.Ns mainGlobals mg → (∀ p ∈ cs, GxR.TabB base mg p.1 p.2) → FnOk P w K mg base CX0 k fa fd [x] sp) (hbind : ∀ (s : Shared) (u : Value), BindsTo s fd ⟨[u], []⟩ [(x, u)])
    (hsp : ∀ H : Hp, (∀ p ∈ cs, H p.2 = some (TabO p.2)) → SqX K H a (ns.map V.int) → sp [.ref a] H (fun v H' => v = .bl true ∧ ∀ p ∈ cs, H' p.2 = some (TabO p.2)) fun _ _ _ => False) :
    codeAny (model P w) callerA (.call (.ref fa) ⟨[.ref a], []⟩) (fun r s' => r = .ok (.ret (.bool true)) ∧ OldK s1.heap s'.heap ∧ s'.os = s1.os ∧ AllBare s'.gens) s1 := by
  have rv := vals_ints hi
  have lenV := hi.length
  let ts := cs.map (·.2)
  let H : Hp := entryH K ts a { cls := .type "list", data := .seq vs.toArray } (ns.map V.int)
  have inT : ∀ p ∈ cs, p.2 ∈ ts := fun p hp => List.mem_map.mpr ⟨p, hp, rfl⟩
  have isT : ∀ b : Addr, b ∈ ts → s1.heap.get? b = some { cls := .none, data := .fields #[] } ∧ K.lookup b = none := fun b hb => by
    obtain ⟨p, hp, e⟩ := List.mem_map.mp hb
    rw [← e]
    exact ⟨hT p hp, nT p hp⟩
  have aT : a ∉ ts := fun z => by
    have q := (isT a z).1
    rw [ha] at q
    have z' : Data.seq vs.toArray _ = Data.fields #[] := congrArg Obj.data (Option.some.inj q)
    cases z'
  -- what is neither a list nor an empty table is not tracked
  have free : ∀ {b : Addr} {o : Obj}, s1.heap.get? b = some o → (∀ zs n, o.data ≠ .seq zs n) → o.data ≠ .fields #[] → H b = none := fun {b o} e h1 h2 => by
    cases q : H b with
    | none => rfl
    | some u =>
      rcases entry_some q with ⟨hb, _⟩ | ⟨_, hb, _⟩
      · rw [(isT b hb).1] at e
        cases e
        exact (h2 rfl).elim
      · rw [hb, ha] at e
        cases e
        exact (h1 _ _ rfl).elim
  have freeD : ∀ {b : Addr} {o : Obj} {es : Array DictEntry} {ep : Nat}, s1.heap.get? b = some o → o.data = .dict es ep → H b = none := fun {b o es ep} e d => by
    refine free e (fun zs n z => ?_) fun z => ?_
    · rw [d] at z
      cases z
    · rw [d] at z
      cases z
  have nsK : ∀ {b : Addr} {m : Str → Option Value}, s1.heap.Ns b m → (hidT s1.heap H).Ns b m := fun {b m} ⟨o, es, ep, e, d, r⟩ => ⟨o, es, ep, hidT_get e (freeD e d), d, r⟩
  have hKb : K.In (hidT s1.heap H) := fun b o e => hidT_get (KX b o e) (by
    cases q : H b with
    | none => rfl
    | some u =>
      rcases entry_some q with ⟨hb, _⟩ | ⟨_, hb, hk, _⟩
      · rw [(isT b hb).2] at e
        cases e
      · rw [hb, hk] at e
        cases e)
  have hM : L2.Mod K mg (hidT s1.heap H) := ⟨hKb, nsK hns, ⟨mb, nsK hb, hbb⟩, let ⟨mc, h1, h2⟩ := hlim; ⟨mc, nsK h1, h2⟩⟩
  have TB : ∀ p ∈ cs, GxR.TabB (hidT s1.heap H) mg p.1 p.2 := fun p hp => by
    have hTp := hT p hp
    refine ⟨?_, ?_, fun z => ?_⟩
    · obtain ⟨o, us, file, tf, flags, tg, inF, text, tt, e1, r1, r2, r3, r⟩ := C p hp
      refine ⟨o, us, file, tf, flags, tg, inF, text, tt, hidT_get e1 (free e1 (fun zs n z => ?_) fun z => ?_), r1, r2, r3, r⟩
      · rw [r2] at z
        cases z
      · rw [r2] at z
        cases z
        simp at r3
    · obtain ⟨bm, ob, b1, b2, b3, b4, b5, b6⟩ := hbm
      refine ⟨bm, ob, b1, b2, fun q => ?_, fun q => ?_, hidT_get b3 (free b3 (fun zs n z => ?_) fun z => ?_), b4, b5, b6⟩
      · obtain ⟨o, es, ep, e, hd, _⟩ := hns
        rw [q, e] at b3
        cases b3
        rw [hd] at b6
        cases b6
      · rw [q, hTp] at b3
        cases b3
        cases b6
      · rw [b6] at z
        cases z
      · rw [b6] at z
        cases z
    · obtain ⟨o, es, ep, e, hd, _⟩ := hns
      rw [z, hTp] at e
      cases e
      cases hd
  have hok : HOk P w H s1.heap := fun b u z => by
    rcases entry_some z with ⟨hb, rfl⟩ | ⟨_, rfl, _, rfl⟩
    · have e := (isT b hb).1
      refine ⟨⟨#[], e, True.intro⟩, ⟨_, e⟩, ?_⟩
      rintro h1 h2 ⟨ps, e1, e2⟩ kp
      exact ⟨ps, kp _ e1, e2⟩
    · exact ⟨ha, by rw [List.length_map]; exact hl, vs, _, rv, ha⟩
  have hS : SqX K H a (ns.map V.int) := by
    cases hk : K.lookup a with
    | some o =>
      have e := KX a o hk
      rw [ha] at e
      cases e
      exact .inr ⟨vs, hk, by rw [List.length_map]; exact hl, rv⟩
    | none => exact .inl (.inr ⟨_, show entryH K ts a _ _ a = _ by unfold entryH; rw [if_neg aT, if_pos ⟨rfl, hk⟩]⟩)
  have e0 : Env0 P w K mg (hidT s1.heap H) callerA [] s1 H := ⟨rfl, hM, fun b o e => of_hidT e, Nat.le_of_eq (hidT_size _ _), trivial, fun b hb => absurd (show b ∈ ([] : List Addr) from hb) (by simp), hok, .of_eq hg⟩
  refine codeAny_mono ((F _ hKb (nsK hns) TB).run callerA [] s1 H ⟨[.ref a], []⟩ [.ref a] [.ref a] _ _ hr e0 (hbind s1 (.ref a)) (.cons rfl .nil) (hsp H (fun p hp => entry_tab (inT p hp)) hS)) fun r s' h => ?_
  cases r with
  | error e => exact False.elim h
  | ok fl =>
    cases fl with
    | next => exact False.elim h
    | brk => exact False.elim h
    | cont => exact False.elim h
    | ret u =>
      obtain ⟨v, H', os, bare, un, hok', r', q⟩ := h
      obtain ⟨qv, qT⟩ : v = .bl true ∧ ∀ p ∈ cs, H' p.2 = some (TabO p.2) := q
      subst qv
      obtain rfl : u = Value.bool true := r'
      have key : ∀ b o, b ∉ ts → s1.heap.get? b = some o → s'.heap.get? b = some o := fun b o nb e => by
        cases q : H b with
        | none => exact un.keep b o e q (by intro z; exact absurd (show b ∈ ([] : List Addr) from z) (by simp)) (by simp)
        | some u =>
          rcases entry_some q with ⟨z, _⟩ | ⟨_, rfl, _, rfl⟩
          · exact absurd z nb
          · obtain ⟨e1, _⟩ := hok b _ q
            obtain ⟨e2, _⟩ := hok' b _ (un.frzs b _ _ q)
            rw [e] at e1
            cases e1
            exact e2
      have grown : ∀ p ∈ cs, ∃ more : Array Value, s'.heap.get? p.2 = some { cls := .none, data := .fields more } := fun p hp => by
        obtain ⟨⟨ps, e, _⟩, _, _⟩ := hok' p.2 _ (qT p hp)
        exact ⟨ps, e⟩
      refine ⟨rfl, ⟨fun b o e => ?_, fun b o e => ?_⟩, os, bare⟩
      · by_cases hb : b ∈ ts
        · obtain ⟨p, hp, ep⟩ := List.mem_map.mp hb
          obtain ⟨more, hm⟩ := grown p hp
          have ep' : p.2 = b := ep
          rw [← ep'] at e ⊢
          rw [hT p hp] at e
          cases e
          exact .inr (.inl ⟨((C p hp).tab (hT p hp)).isCodeTable, rfl, #[], more, rfl, by rw [Array.empty_append]; exact hm⟩)
        · exact .inl (key b o hb e)
      · by_cases hb : b ∈ ts
        · obtain ⟨p, hp, ep⟩ := List.mem_map.mp hb
          obtain ⟨more, hm⟩ := grown p hp
          have ep' : p.2 = b := ep
          rw [← ep']
          exact ⟨_, hm⟩
        · exact ⟨o, key b o hb e⟩
end
/-- what is to be shown of a law's def, behind the top -/
def LawAt (l : PySem.W.OpenLaw) (w : World) (K : PySem.W.Frag) (k n : Nat) (x : Str) (mg : Str → Option Value) (h : Heap) (fa : Addr) : Prop :=
  ∃ (fd : FuncData) (cs : List (Addr × Addr)) (sp : Sp), (∀ p ∈ cs, h.get? p.2 = some { cls := .none, data := .fields #[] }) ∧ (∀ p ∈ cs, K.lookup p.2 = none) ∧ (∀ p ∈ cs, PySem.W.CodeHd h p.1 p.2) ∧ (∀ (s : Shared) (u : Value), BindsTo s fd ⟨[u], []⟩ [(x, u)]) ∧
    (∀ (H : Hp) (a : Addr) (ns : List Int), ns.length ≤ n → (∀ z ∈ ns, Builtin.Int.intBits z ≤ 1048576) → (∀ p ∈ cs, H p.2 = some (TabO p.2)) → SqX K H a (ns.map V.int) → sp [.ref a] H (fun v H' => v = .bl true ∧ ∀ p ∈ cs, H' p.2 = some (TabO p.2)) fun _ _ _ => False) ∧
    ∀ base : Heap, K.In base → base.Ns mainGlobals mg → (∀ p ∈ cs, GxR.TabB base mg p.1 p.2) → FnOk l.prog w K mg base CX0 k fa fd [x] sp
theorem walkX {l : PySem.W.OpenLaw} {n k : Nat} {q : Program} {loose : List Str} {XP : (Str → Option Value) → Heap → Prop} {YP : World → Heap → Prop} {d : DefRec} {K : Params → PySem.W.Frag} {x : Str}
    (hn : l.most = some n) (hn2 : n ≤ sizeLine) (hdf : d.params.defaults = []) (hr : Room k callerA) (hY : ∀ (w : World) (h : Heap), YP w h → (K w.params).In h)
    (F : ∀ (w : World) (mg mb : Str → Option Value) (fa : Addr) (s0 : Shared) (h : Heap), PySem.W.Ground q loose [] XP w s0 mg mb h → YP w h → (K w.params).In h → h.Ns mainGlobals mg → mg d.name = some (.ref fa) → LawAt l w (K w.params) k n x mg h fa) :
    PySem.W.WalkO q loose XP YP l.row.toRowW d [] (fun f vs => PySem.call f vs) := by
  refine Att.attach_callB hn hdf fun w s0 s1 mg mb fa o pm cd doc a vs ns G Y ho hd hcd hmg hobj hints hlen hbits hg => ?_
  have KX := hY w _ Y
  obtain ⟨fd, cs, sp, hT, nT, C, hb, hsp, hF⟩ := F w mg mb fa s0 _ G Y KX G.T.g hmg
  exact lawX KX G.T.g G.T.b G.T.builtins G.T.nolimit hg hT nT C G.T.bmain hobj hints (Nat.le_trans hlen hn2) hr hF hb (fun H hH hS => hsp H a ns hlen hbits hH hS)
theorem kp_ex {u : Addr} {H H' : Hp} (k : Kp u H H') (h : H u = none) : Ex H H' := fun a o e => k a o (ne_of_none e h) e
section
variable {K : PySem.W.Frag} {σ : L2.St} {H : Hp} {Q : VK} {a b : Addr} {xs zs : List V} {ns : List Int}
theorem g_catX (h : SqX K H a xs) (hb : H b = some (.lst zs)) (hz : xs.length + zs.length ≤ sizeLine) (q : NewL Q (xs ++ zs) H) : rCatX K (.ref a) (.ref b) H Q := ⟨a, b, xs, zs, rfl, rfl, h, hb, hz, q⟩
/-- the cells that a law takes: whole numbers, at most as many as there are, and one more -/
theorem cells_len (ns : List Int) (lo hi : Option Int) : (cutV (ns.map V.int ++ [V.int 0]) lo hi).length ≤ ns.length + 1 := by
  have h := cutV_length (ns.map V.int ++ [V.int 0]) lo hi
  rw [List.length_append, List.length_map] at h
  exact h
theorem cells_int {ns : List Int} {lo hi : Option Int} {i : Nat} {v : V} (h : (cutV (ns.map V.int ++ [V.int 0]) lo hi)[i]? = some v) : ∃ c, v = .int c := by
  have m := List.mem_of_getElem? h
  unfold cutV at m
  have m2 := List.mem_of_mem_drop (List.mem_of_mem_take m)
  rcases List.mem_append.mp m2 with z | z
  · obtain ⟨c, _, e⟩ := List.mem_map.mp z
    exact ⟨c, e.symm⟩
  · exact ⟨0, List.mem_singleton.mp z⟩
end
end Lk

namespace Lk
open PySem PySem.Spec PyProof.Rows L2 Evl

/-! ### all, any of a generator expression over a text, a tuple, a list; the tables as TabO -/
section
variable {X : Cx} {pins : List (Addr × Obj)} {σ : L2.St} {H : Hp} {s : Shared}
theorem ext_eq {φ : Heap → Prop} {o : HO} (h : some (HO.ext φ) = some o) : o = .ext φ := (Option.some.inj h).symm
/-- the table at P has grown, all else stands -/
theorem inv_tabO {P : Addr} {ps' : Array Value} {h' : Heap} {g' : Array GenState} {d' : Drawn} {t' : Nat} (I : Inv X pins σ H s) (hP : H P = some (TabO P)) (k : ∀ b o, b ≠ P → s.heap.get? b = some o → h'.get? b = some o)
    (hm : h'.get? P = some { cls := .none, data := .fields ps' }) (ht : TriplesOk ps'.toList) (hg : AllBare g') : Inv X pins σ H { s with heap := h', gens := g', drawn := d', toks := t' } := by
  have off : ∀ b, H b ≠ some (TabO P) → b ≠ P := fun b h z => h (by rw [z]; exact hP)
  have nN : ∀ b, H b = none → b ≠ P := fun b e => off b (by rw [e]; exact nofun)
  refine I.step (ch := []) (fun b hb => absurd hb (by simp)) (fun b o _ _ _ e n => k b o (nN b n) e) (fun b o _ _ _ e n => ⟨o.slots, k b o (nN b n) e⟩) (fun b o _ _ n => n) (fun b o _ e => ?_) (fun b xs e => e) (fun b o u e => e)
    (fun b qs e => ⟨#[], by simpa using e⟩) (fun m hn => ?_) (fun b u e => ?_) hg
  · by_cases hb : b = P
    · rw [hb]
      exact ⟨_, hm⟩
    · exact ⟨o, k b o hb e⟩
  · obtain ⟨ob, es, ep, ho, r⟩ := hn
    exact ⟨ob, es, ep, k _ ob (nN _ I.free) ho, r⟩
  · by_cases hb : b = P
    · rw [hb] at e
      rw [hP] at e
      obtain rfl := ext_eq e
      rw [hb]
      refine ⟨⟨ps', hm, ht⟩, ⟨_, hm⟩, ?_⟩
      rintro h1 h2 ⟨qs, e1, e2⟩ kp
      exact ⟨qs, kp _ e1, e2⟩
    · refine (I.hok b u e).stay (fun d v hd q => k d v ?_ q) (fun d q => q) fun d xs q => q
      rcases hd with z | z
      · rw [z]
        exact hb
      · exact off d (by rw [z]; exact nofun)
/-- the iterator of a walked thing, its turns -/
def Iters (X : Cx) (P : Addr) (u : Value) (s1 : Shared) (n : Nat) (Pf : Nat → Value → Prop) : Prop :=
  ∀ Q : Value → Shared → Prop, (∀ (o : Obj) (fp : List Addr) (St : Nat → Heap → Prop), (∀ A' : Around, A'.handled = none → Walks X.prog X.w A' s1.heap.objs.size fp [s1.heap.objs.size] n Pf St) → St 0 (s1.heap.push o) →
    (∀ b ∈ fp, b ≤ s1.heap.objs.size ∧ b ≠ P) → Q (.ref s1.heap.objs.size) { s1 with heap := s1.heap.push o }) → wpAny (model X.prog X.w) X.A (pyIter u) Q X.xe s1
/-- the generator's own environment -/
structure GEnv (X : Cx) (scope : Scope) (cenv : Env) : Prop where
  sc : cenv.scope = scope
  gl : cenv.globals = X.env.globals
  bi : cenv.builtins = builtinsNs
  ce : cenv.cells = cloFrom X.env.cells scope.names []
/-- the element: a test of the walked items; s1: as the generator was made -/
def EltOk (X : Cx) (scope : Scope) (x : Str) (elt : Expr) (P : Addr) (s1 : Shared) (Pf : Nat → Value → Prop) (pb : Nat → Bool) : Prop :=
  ∀ (cenv : Env) (A' : Around) (E' : Value → Shared → Prop) (i : Nat) (v : Value) (s₂ : Shared) (m₂ : Str → Option Value), GEnv X scope cenv → A'.handled = none → A'.depth ≤ X.A.depth + 1 → A'.units ≤ X.A.units + 8 → Pf i v →
    s₂.heap.Ns cenv.locals m₂ → m₂ x = some v → (∀ b o, b ≠ P → s1.heap.get? b = some o → s₂.heap.get? b = some o) → wpAny (model X.prog X.w) A' (eval elt cenv) (fun y s₃ => y = .bool (pb i) ∧ Keeps s₂ s₃) E' s₂
def ItOk (X : Cx) (scope : Scope) (x : Str) (elt : Expr) (P : Addr) (v : V) (σ : L2.St) (H1 : Hp) (n : Nat) (pb : Nat → Bool) : Prop :=
  ∀ (pins : List (Addr × Obj)) (s : Shared) (u : Value), Inv X pins σ H1 s → RelV v u → ∃ Pf, Iters X P u s n Pf ∧ EltOk X scope x elt P s Pf pb
/-- the generator, ready to be walked -/
def Rdy (X : Cx) (pins : List (Addr × Obj)) (σ : L2.St) (H1 : Hp) (n : Nat) (pb : Nat → Bool) (g : Addr) (s5 : Shared) : Prop :=
  ∃ (fp wr : List Addr) (G : Array GenState → Array GenState → Prop) (F : Nat → Value → Prop) (St : Nat → Shared → Prop),
    WalksS X.prog X.w X.A.in1 g fp wr G n F St ∧ St 0 s5 ∧ TruthOf X.prog X.w X.A.in1 F pb ∧ ∀ s', Moved wr G s5 s' → Inv X pins σ H1 s'
theorem gen_tab {c P : Addr} {elt iter : Expr} {x : Str} {px gpos : Pos} {scope : Scope} {te : TE} {k : Nat} {Q' : Value → Shared → Prop} {R : Nat → (Nat → Bool) → Hp → Prop}
    (hr : Room k X.A) (TB : GxR.TabB X.base X.mg c P) (hcode : X.env.code = .ref c) (S : GxR.GenS X.env scope x) (hi : PE X iter te) (hs : ∀ v, genFold iter X.env v = pure v) (I : Inv X pins σ H s)
    (h : te σ H fun v H1 => H1 P = some (TabO P) ∧ ∃ n pb, ItOk X scope x elt P v σ H1 n pb ∧ R n pb H1)
    (hQ : ∀ n pb H1 g s5, R n pb H1 → Rdy X pins σ H1 n pb g s5 → Q' (.ref g) s5) :
    wpAny (model X.prog X.w) X.A (eval (.GeneratorExp elt [⟨.Name x px, iter, [], 0⟩] scope gpos) X.env) Q' X.xe s := by
  refine wpAny_GeneratorExp_walksQD hr.hd S.co (closure_ok S.free) S.cell S.dot S.loc S.kind (by have := hr.dp; omega) ?_ hs
  refine thn (hi.run pins s σ H _ I h) fun xv s1 ⟨v, H1, I1, r1, q1⟩ => ?_
  obtain ⟨hP, n, pb, it, rr⟩ := q1
  obtain ⟨Pf, hit, hel⟩ := it pins s1 xv I1 r1
  refine hit _ fun o fp St W hst hfp => ?_
  obtain ⟨⟨ps, hPs, ht⟩, _, _⟩ := I1.hok P _ hP
  have hPlt : P < s1.heap.objs.size := Heap.lt_size hPs
  have hP2 : (s1.heap.push o).get? P = some { cls := .none, data := .fields ps } := Heap.get?_push_of_some _ hPs
  have cd : PySem.W.CodeHd (s1.heap.push o) c P := TB.code.keeps fun b u e => Heap.get?_push_of_some _ (I1.bk b u e)
  have lim2 : (s1.heap.push o).NoLimit := I1.nolimit.push o
  have sz2 : (s1.heap.push o).objs.size = s1.heap.objs.size + 1 := Heap.size_push ..
  have cont : ∀ (code : Value) (h3 : Heap) (tk : Nat) (ps' : Array Value), Heap.ExtBut P (s1.heap.push o) h3 → (s1.heap.push o).objs.size ≤ h3.objs.size → h3.get? P = some { cls := .none, data := .fields ps' } → TriplesOk ps'.toList →
      wpAny (model X.prog X.w) X.A (builtinsFor X.env.globals X.env.builtins) (fun bi s₄ =>
        ∃ Ia fp wr n₀ Pf St₀ pz F, Value.ref s1.heap.objs.size = .ref Ia ∧ (∀ A' : Around, A'.handled = none → Walks X.prog X.w A' Ia fp wr n₀ Pf St₀) ∧ St₀ 0 s₄.heap ∧ (∀ b ∈ fp, b < s₄.heap.objs.size) ∧ s₄.heap.NoLimit ∧ cStatics ∉ wr ∧
          (∀ href : Heap, (∀ b o, s₄.heap.get? b = some o → href.get? b = some o) →
            QuietGenD X.prog X.w (genEnv scope (cloFrom X.env.cells scope.names []) s₄.heap.objs.size code bi X.env) x [] elt (List.range s₄.heap.objs.size) wr Pf pz F href (X.A.depth + 1) (X.A.units + 8)) ∧
          (∀ a h₅ tk gs, gs.bare = true → s₄.heap.objs.size < a → h₅.objs.size = a + 1 → (∀ b o, s₄.heap.get? b = some o → h₅.get? b = some o) →
            WalksS X.prog X.w X.A.in4 a (a :: s₄.heap.objs.size :: List.range s₄.heap.objs.size) (s₄.heap.objs.size :: wr) (GenOnlyQ s₄.gens.size) (passing pz n₀ 0).length
              (fun j y => ∃ i, (passing pz n₀ 0)[j]? = some i ∧ F i y) (GenAt X.prog X.w X.A.in4 a s₄.gens.size s₄.heap.objs.size (List.range s₄.heap.objs.size) wr pz n₀ F) →
            GenAt X.prog X.w X.A.in4 a s₄.gens.size s₄.heap.objs.size (List.range s₄.heap.objs.size) wr pz n₀ F 0 { s₄ with gens := s₄.gens.push gs, toks := tk, heap := h₅ } →
            Q' (.ref a) { s₄ with gens := s₄.gens.push gs, toks := tk, heap := h₅ })) X.xe { s1 with heap := h3, toks := tk } := by
    intro code h3 tk ps' hx hsz hP3 ht3
    obtain ⟨bm, ob, e1, e2, e3, e4, e5, e6, e7, e8⟩ := TB.bm
    have hcP : cStatics ≠ P := fun e => by
      obtain ⟨_, ⟨o', es, ep, ho, hd, _⟩, _⟩ := I1.nolimit
      rw [e, hPs] at ho
      cases ho
      cases hd
    have hcl : cStatics < s1.heap.objs.size := let ⟨_, hns, _⟩ := I1.nolimit; hns.lt
    have keep3 : ∀ b u, b ≠ P → s1.heap.get? b = some u → h3.get? b = some u := fun b u hb e => hx b u hb (Heap.get?_push_of_some _ e)
    have nIt : ∀ b u, s1.heap.get? b = some u → b ≠ s1.heap.objs.size := fun b u e => Nat.ne_of_lt (Heap.lt_size e)
    refine wpAny_builtinsFor (m := X.mg) (by rw [I1.ok.glob]; exact ((I1.mod.glob.keeps I1.bk).push o).extBut hx TB.gP) e1 e2 (keep3 _ _ e4 (I1.bk _ _ e5)) e6 e7 e8 ?_
    refine ⟨s1.heap.objs.size, fp, [s1.heap.objs.size], n, Pf, St, (fun _ => true), (fun i y => y = .bool (pb i)), rfl, W, ?_, ?_, lim2.extBut hx hcP, ?_, ?_, ?_⟩
    · exact (W X.A hr.hd).frame _ _ _ hst fun b hb u e => hx b u (hfp b hb).2 e
    · exact fun b hb => Nat.lt_of_lt_of_le (Nat.lt_succ_of_le (hfp b hb).1) (show s1.heap.objs.size + 1 ≤ h3.objs.size by omega)
    · intro z
      rcases List.mem_cons.mp z with z | z
      · exact Nat.ne_of_lt hcl z
      · cases z
    · intro href hhref
      refine ⟨fun A' E' i v s₂ m₂ hA _ _ hPv hn hm hk => ?_, fun A' E' i v s₂ m₂ hA hD hU hPv hp hn hm hk => ?_⟩
      · simp only [List.forIn_nil]
        exact wpAny_pure ⟨rfl, GxR.keeps_refl _⟩
      · refine wpAny_mono (hel _ A' E' i v s₂ m₂ ⟨rfl, rfl, rfl, rfl⟩ hA hD hU hPv hn hm fun b u hb e => hk b ?_ ?_ u (hhref b u (keep3 b u hb e))) (fun y s3 r => r) fun _ _ e => e
        · exact List.mem_range.mpr (Heap.lt_size (keep3 b u hb e))
        · intro z
          rcases List.mem_cons.mp z with z | z
          · exact nIt b u e z
          · cases z
    · intro g h5 tk5 gs hgb hag hsz5 hk5 W5 hat
      simp only [GxR.passing_true, List.length_range] at W5
      refine hQ n pb H1 g _ rr ⟨_, _, _, _, _, W5.in4_1, hat, ?_, fun s' hm => ?_⟩
      · intro j y sj Qj Ej hy hQj
        obtain ⟨i, hij, rfl⟩ := hy
        obtain ⟨hj, ej⟩ := List.getElem?_eq_some_iff.mp hij
        rw [List.getElem_range] at ej
        subst ej
        exact wpAny_truthy_bool hQj
      · have nwr : ∀ b u, s1.heap.get? b = some u → b ∉ h3.objs.size :: [s1.heap.objs.size] := fun b u e hb => by
          have hl := Heap.lt_size e
          rcases List.mem_cons.mp hb with z | z
          · rw [z] at hl
            have h9 : (h3.objs.size : Nat) < s1.heap.objs.size := hl
            omega
          · rcases List.mem_cons.mp z with z | z
            · exact nIt b u e z
            · cases z
        have J := inv_tabO (h' := s'.heap) (g' := s'.gens) (d' := s'.drawn) (t' := s'.toks) I1 hP (fun b u hb e => hm.heap b u (nwr b u e) (hk5 b u (keep3 b u hb e))) (hm.heap P _ (nwr P _ hPs) (hk5 P _ hP3)) ht3
          (AllBare.movedS (I1.bare.push hgb) hm)
        rw [GxR.sh_eta s1 s' hm.os] at J
        exact J
  refine ⟨lim2, ?_⟩
  cases hf : codeAmong gpos ps.toList with
  | none =>
    refine wpAny_genexprCodeX hcode (cd.code hP2 ht) (cd.tab hP2) hf fun c' h' tk hx hge hlt hco' _ htab' _ => ?_
    obtain ⟨o1, vs, f1, tf, fl, tg, inF, tx, tt, op, _, _, _, _, _, _, _, _, _, htr, _⟩ := hco'
    exact cont _ h' tk _ hx (Nat.le_trans hge (Nat.le_of_lt hlt)) htab'.2 htr
  | some cv =>
    refine wpAny_genexprCode_hit hcode (cd.code hP2 ht) hf ?_
    exact cont cv (s1.heap.push o) s1.toks ps (Heap.ExtBut.refl _ _) (Nat.le_refl _) hP2 ht

/-- all(test for x in e), any(test for x in e) -/
def tAllG (X : Cx) (P : Addr) (scope : Scope) (x : Str) (elt : Expr) (te : TE) : TE := fun σ H Q => te σ H fun v H1 => H1 P = some (TabO P) ∧ ∃ n pb, ItOk X scope x elt P v σ H1 n pb ∧ Q (.bl ((List.range n).all pb)) H1
def tAnyG (X : Cx) (P : Addr) (scope : Scope) (x : Str) (elt : Expr) (te : TE) : TE := fun σ H Q => te σ H fun v H1 => H1 P = some (TabO P) ∧ ∃ n pb, ItOk X scope x elt P v σ H1 n pb ∧ Q (.bl ((List.range n).any pb)) H1
theorem pe_allG {c P : Addr} {elt iter : Expr} {x : Str} {px p pos gpos : Pos} {scope : Scope} {te : TE} {k : Nat} (TB : GxR.TabB X.base X.mg c P) (hr : Room k X.A) (hg : Gl X "all") (hm : X.mg "all" = none) (hcode : X.env.code = .ref c) (S : GxR.GenS X.env scope x) (hi : PE X iter te)
    (hs : ∀ v, genFold iter X.env v = pure v)
    (he : starEach [.GeneratorExp elt [⟨.Name x px, iter, [], 0⟩] scope gpos] X.env = (false, eval (.GeneratorExp elt [⟨.Name x px, iter, [], 0⟩] scope gpos) X.env) :: starEach [] X.env := by rfl) :
    PE X (.Call (.Name "all" p) [.GeneratorExp elt [⟨.Name x px, iter, [], 0⟩] scope gpos] [] pos) (tAllG X P scope x elt te) := by
  refine ⟨fun pins s σ H Q I h => ?_⟩
  refine wpAny_Call_Name_kw (ld_blt I hg hm (show bootBuiltins "all" = some (.builtin "all") by first | decide +kernel | kernel_rfl) ?_)
  refine PyProof.Rows.callWith_builtin1 ?_ he (by rfl)
  rw [he]
  show wpAny _ _ (spliced ((false, eval (.GeneratorExp elt [⟨.Name x px, iter, [], 0⟩] scope gpos) X.env) :: backTo pos (starEach [] X.env))) _ _ s
  refine Calls.spliced_cons (gen_tab (R := fun n pb H1 => Q (.bl ((List.range n).all pb)) H1) hr TB hcode S hi hs I h fun n pb H1 g s5 hR hG => ?_)
  obtain ⟨fp, wr, G, F, St, W, hst, htr, hI⟩ := hG
  refine Calls.spliced_nil ?_
  exact call_all_walkS (W.self 0 _ _ _ hst ⟨g, fp, wr, G, _, F, St, _, rfl, W, hst, htr, fun s' hmv => ⟨.bl _, H1, hI s' hmv, rfl, hR⟩⟩)
theorem pe_anyG {c P : Addr} {elt iter : Expr} {x : Str} {px p pos gpos : Pos} {scope : Scope} {te : TE} {k : Nat} (TB : GxR.TabB X.base X.mg c P) (hr : Room k X.A) (hg : Gl X "any") (hm : X.mg "any" = none) (hcode : X.env.code = .ref c) (S : GxR.GenS X.env scope x) (hi : PE X iter te)
    (hs : ∀ v, genFold iter X.env v = pure v)
    (he : starEach [.GeneratorExp elt [⟨.Name x px, iter, [], 0⟩] scope gpos] X.env = (false, eval (.GeneratorExp elt [⟨.Name x px, iter, [], 0⟩] scope gpos) X.env) :: starEach [] X.env := by rfl) :
    PE X (.Call (.Name "any" p) [.GeneratorExp elt [⟨.Name x px, iter, [], 0⟩] scope gpos] [] pos) (tAnyG X P scope x elt te) := by
  refine ⟨fun pins s σ H Q I h => ?_⟩
  refine wpAny_Call_Name_kw (ld_blt I hg hm boot_any ?_)
  refine PyProof.Rows.callWith_builtin1 ?_ he (by rfl)
  rw [he]
  show wpAny _ _ (spliced ((false, eval (.GeneratorExp elt [⟨.Name x px, iter, [], 0⟩] scope gpos) X.env) :: backTo pos (starEach [] X.env))) _ _ s
  refine Calls.spliced_cons (gen_tab (R := fun n pb H1 => Q (.bl ((List.range n).any pb)) H1) hr TB hcode S hi hs I h fun n pb H1 g s5 hR hG => ?_)
  obtain ⟨fp, wr, G, F, St, W, hst, htr, hI⟩ := hG
  refine Calls.spliced_nil ?_
  exact call_any_walkS (W.self 0 _ _ _ hst ⟨g, fp, wr, G, _, F, St, _, rfl, W, hst, htr, fun s' hmv => ⟨.bl _, H1, hI s' hmv, rfl, hR⟩⟩)
end
end Lk

namespace Lk
open PySem PySem.Spec PyProof.Rows L2 Evl
section
variable {X : Cx} {pins : List (Addr × Obj)} {σ : L2.St} {H : Hp} {s1 s : Shared} {P : Addr} {Pf : Nat → Value → Prop} {n : Nat}
theorem tab_at (I : Inv X pins σ H s1) (hP : H P = some (TabO P)) : ∃ ps : Array Value, s1.heap.get? P = some { cls := .none, data := .fields ps } := by
  obtain ⟨⟨ps, e, _⟩, _, _⟩ := I.hok P _ hP
  exact ⟨ps, e⟩
theorem tab_lt (I : Inv X pins σ H s1) (hP : H P = some (TabO P)) : P < s1.heap.objs.size := let ⟨_, e⟩ := tab_at I hP; Heap.lt_size e
theorem tab_base (I : Inv X pins σ H s1) (hP : H P = some (TabO P)) {b : Addr} {o : Obj} (e : X.base.get? b = some o) : b ≠ P := fun z => by
  have q := (I.bs b o e).2
  rw [z, hP] at q
  cases q
theorem it_str {a : Str} {t : Tok} (hP : P < s1.heap.objs.size) : Iters X P (.str a t) s1 a.cps.size (SignAt a) := fun Q h => by
  refine wpAny_pyIter_str fun o St W hst => h o _ St W hst fun b hb => ?_
  rcases List.mem_cons.mp hb with z | z
  · rw [z]
    exact ⟨Nat.le_refl _, Nat.ne_of_gt hP⟩
  · cases z
theorem it_tup {a : Addr} {its : Array Value} (hP : P < s1.heap.objs.size) (ha : s1.heap.IsTuple a its) (hne : a ≠ P) : Iters X P (.ref a) s1 its.size (fun i v => its[i]? = some v) := fun Q h => by
  have hlt : a < s1.heap.objs.size := let ⟨_, e, _⟩ := ha; Heap.lt_size e
  refine wpAny_pyIter_tuple ha (h _ _ (fun i hp => hp.IsTupleIter s1.heap.objs.size a i ∧ hp.IsTuple a its) (fun A' hA => Walks.tuple hA _ _ (Nat.ne_of_lt hlt) _) ⟨⟨_, Heap.get?_push_size _ rfl, rfl, rfl⟩, ha.push _⟩ fun b hb => ?_)
  rcases List.mem_cons.mp hb with z | z
  · rw [z]
    exact ⟨Nat.le_refl _, Nat.ne_of_gt hP⟩
  · rcases List.mem_cons.mp z with z | z
    · rw [z]
      exact ⟨Nat.le_of_lt hlt, hne⟩
    · cases z
theorem it_lst {a : Addr} {its : Array Value} (hP : P < s1.heap.objs.size) (ha : s1.heap.IsList a its) (hne : a ≠ P) : Iters X P (.ref a) s1 its.size (fun i v => its[i]? = some v) := fun Q h => by
  have hlt : a < s1.heap.objs.size := let ⟨_, e, _⟩ := ha; Heap.lt_size e
  refine wpAny_pyIter_list ha (h _ _ (fun i hp => hp.IsListIter s1.heap.objs.size a i ∧ hp.IsList a its) (fun A' hA => Walks.list hA _ _ (Nat.ne_of_lt hlt) _) ⟨⟨_, Heap.get?_push_size _ rfl, rfl, rfl⟩, ha.push _⟩ fun b hb => ?_)
  rcases List.mem_cons.mp hb with z | z
  · rw [z]
    exact ⟨Nat.le_refl _, Nat.ne_of_gt hP⟩
  · rcases List.mem_cons.mp z with z | z
    · rw [z]
      exact ⟨Nat.le_of_lt hlt, hne⟩
    · cases z
/-! ### names in the generator's own frame -/
section
variable {scope : Scope} {cenv : Env} {A' : Around} {E' : Value → Shared → Prop} {s₂ : Shared} {m₂ : Str → Option Value} {x : Str} {v u : Value} {p : Pos} {Q : Value → Shared → Prop}
theorem ge_own (GE : GEnv X scope cenv) (hk : scope.kind = .function) (hl : scope.names.lookup x = some .local) (hn : s₂.heap.Ns cenv.locals m₂) (hm : m₂ x = some v) (hd : (x == ("__debug__" : Str)) = false) (h : Q v s₂) : wpAny (model X.prog X.w) A' (eval (.Name x p) cenv) Q E' s₂ :=
  wpAny_Name (wpAny_loadName_local (by rw [GE.sc]; exact hk) (show cenv.scope.names.lookup x = some .local by rw [GE.sc]; exact hl) hn hm h) hd
theorem ge_kb (I : Inv X pins σ H s1) (hP : H P = some (TabO P)) (kp : ∀ b o, b ≠ P → s1.heap.get? b = some o → s₂.heap.get? b = some o) : ∀ b o, X.base.get? b = some o → s₂.heap.get? b = some o := fun b o e => kp b o (tab_base I hP e) (I.bk b o e)
theorem ge_blt (I : Inv X pins σ H s1) (kb : ∀ b o, X.base.get? b = some o → s₂.heap.get? b = some o) (GE : GEnv X scope cenv) (hk : scope.kind = .function) (hl : scope.names.lookup x = some .globalImplicit)
    (hm : X.mg x = none) (hv : bootBuiltins x = some u) (hn : x ≠ "__name__") (hd : (x == ("__debug__" : Str)) = false) (h : Q u s₂) : wpAny (model X.prog X.w) A' (eval (.Name x p) cenv) Q E' s₂ := by
  obtain ⟨mb, h1, h2⟩ := I.mod.blt
  exact Calls.Name_function_global (by rw [GE.sc]; exact hk) (show cenv.scope.names.lookup x = _ by rw [GE.sc]; exact hl) (Calls.loadGlobal_builtin (by rw [GE.gl, I.ok.glob]; exact I.mod.glob.keeps kb) hm (by rw [GE.bi]; exact h1.keeps kb) ((h2 x hn).trans hv) h) hd
theorem ge_glob (I : Inv X pins σ H s1) (kb : ∀ b o, X.base.get? b = some o → s₂.heap.get? b = some o) (GE : GEnv X scope cenv) (hk : scope.kind = .function) (hl : scope.names.lookup x = some .globalImplicit)
    (hm : X.mg x = some u) (hd : (x == ("__debug__" : Str)) = false) (h : Q u s₂) : wpAny (model X.prog X.w) A' (eval (.Name x p) cenv) Q E' s₂ :=
  Calls.Name_function_global (by rw [GE.sc]; exact hk) (show cenv.scope.names.lookup x = _ by rw [GE.sc]; exact hl) (Calls.loadGlobal_global (by rw [GE.gl, I.ok.glob]; exact I.mod.glob.keeps kb) hm h) hd
end
/-! ### 'a' <= sign <= 'z' -/
def btw (lo hi : Str) (c : Nat) : Bool := !decide ([c] < lo.cps.toList) && !decide (hi.cps.toList < [c])
theorem elt_btw {scope : Scope} {x : Str} {lo hi a : Str} {j1 j2 : Nat} {p1 p2 p3 p4 : Pos} (hk : scope.kind = .function) (hl : scope.names.lookup x = some .local) (hd : (x == ("__debug__" : Str)) = false) :
    EltOk X scope x (.Compare (.Constant (.str lo) j1 p1) [.LtE, .LtE] [.Name x p2, .Constant (.str hi) j2 p3] p4) P s1 (SignAt a) (GxR.trF (btw lo hi) a.cps.toList) := by
  intro cenv A' E' i v s₂ m₂ GE hA hD hU hv hn hm kp
  obtain ⟨c, u, hc, rfl⟩ := hv
  have hc2 : a.cps.toList[i]? = some c := by rw [Array.getElem?_toList]; exact hc
  rw [GxR.trF_some hc2]
  refine Compare_chain (Calls.Constant_str (chain_link (ge_own GE hk hl hn hm hd (PySem.P.le_str (wpAny_truthy_bool ?_)))))
  show if (!decide ([c] < lo.cps.toList)) = true then _ else _
  cases h : !decide ([c] < lo.cps.toList) with
  | false => exact ⟨by unfold btw; rw [h]; rfl, GxR.keeps_tok _ _⟩
  | true =>
    refine chain_last (Calls.Constant_str (PySem.P.le_str ⟨?_, ?_⟩))
    · unfold btw
      rw [h]
      rfl
    · exact ⟨_, _, rfl, fun _ _ e => e⟩
theorem ok_signs {scope : Scope} {x : Str} {lo hi a : Str} {j1 j2 : Nat} {p1 p2 p3 p4 : Pos} (hk : scope.kind = .function) (hl : scope.names.lookup x = some .local) (hP : H P = some (TabO P)) (hd : (x == ("__debug__" : Str)) = false := by decide) :
    ItOk X scope x (.Compare (.Constant (.str lo) j1 p1) [.LtE, .LtE] [.Name x p2, .Constant (.str hi) j2 p3] p4) P (.str a) σ H a.cps.size (GxR.trF (btw lo hi) a.cps.toList) := fun pins s u I r => by
  obtain ⟨t, rfl⟩ := _root_.id r
  exact ⟨_, it_str (tab_lt I hP), elt_btw hk hl hd⟩
/-! ### isinstance(x, str) of texts -/
theorem elt_isiS {scope : Scope} {x : Str} {ws : List Str} {its : List Value} {p1 p2 p3 p4 : Pos} (I : Inv X pins σ H s1) (hP : H P = some (TabO P)) (hk : scope.kind = .function) (hl : scope.names.lookup x = some .local) (hd : (x == ("__debug__" : Str)) = false)
    (g1 : scope.names.lookup ("isinstance" : Str) = some .globalImplicit) (m1 : X.mg "isinstance" = none) (g2 : scope.names.lookup ("str" : Str) = some .globalImplicit) (m2 : X.mg "str" = none) (rv : Vals (ws.map V.str) its) :
    EltOk X scope x (.Call (.Name "isinstance" p1) [.Name x p2, .Name "str" p3] [] p4) P s1 (fun i v => its.toArray[i]? = some v) (fun _ => true) := by
  intro cenv A' E' i v s₂ m₂ GE hA hD hU hv hn hm kp
  have kb := ge_kb I hP kp
  have hv2 : its[i]? = some v := by simpa using hv
  obtain ⟨y, t, rfl⟩ : ∃ (y : Str) (t : Tok), v = .str y t := by
    have hi : i < its.length := (List.getElem?_eq_some_iff.mp hv2).1
    have hl := rv.length
    have hw : i < (ws.map V.str).length := by omega
    obtain ⟨u, hu, ru⟩ := rv.get (List.getElem?_eq_getElem hw)
    rw [hv2] at hu
    cases hu
    rw [List.getElem_map] at ru
    obtain ⟨t, e⟩ := _root_.id ru
    exact ⟨_, t, e⟩
  refine wpAny_Call_Name_kw (ge_blt I kb GE hk g1 m1 (u := .builtin "isinstance") (by first | decide +kernel | kernel_rfl) (by decide) (by decide) ?_)
  refine PyProof.Rows.callWith_builtin1 ?_ (by rfl) (by rfl)
  show wpAny _ _ (spliced [(false, eval (.Name x p2) cenv), (false, eval (.Name "str" p3) cenv)]) _ _ s₂
  refine Calls.spliced_cons (ge_own GE hk hl hn hm hd (Calls.spliced_cons (ge_blt I kb GE hk g2 m2 (u := .type "str") (by first | decide +kernel | kernel_rfl) (by decide) (by decide) (Calls.spliced_nil ?_))))
  exact PySem.W.kia_one (PySem.W.kitx_str (K := X.K)) (I.ok.mod.kin.keeps kb) True.intro (kit_ty (show kitB "str" "str" = some true by decide +kernel)) (fun z => nomatch z) fun tk => ⟨rfl, GxR.keeps_tok _ _⟩
theorem tup_ne {a : Addr} {xs : List V} (I : Inv X pins σ H s1) (hP : H P = some (TabO P)) (ha : SqT X.K H a xs) : a ≠ P := fun z => by
  obtain ⟨ps, e⟩ := tab_at I hP
  obtain ⟨its, r, ⟨o, h1, h2, n, h3⟩, _⟩ := I.tuple ha
  rw [z, e] at h1
  cases h1
  cases h2
theorem ok_isiS {scope : Scope} {x : Str} {a : Addr} {ws : List Str} {p1 p2 p3 p4 : Pos} (hk : scope.kind = .function) (hl : scope.names.lookup x = some .local) (g1 : scope.names.lookup ("isinstance" : Str) = some .globalImplicit) (m1 : X.mg "isinstance" = none)
    (g2 : scope.names.lookup ("str" : Str) = some .globalImplicit) (m2 : X.mg "str" = none) (hP : H P = some (TabO P)) (ha : SqT X.K H a (ws.map V.str)) (hd : (x == ("__debug__" : Str)) = false := by decide) :
    ItOk X scope x (.Call (.Name "isinstance" p1) [.Name x p2, .Name "str" p3] [] p4) P (.ref a) σ H ws.length (fun _ => true) := fun pins s u I r => by
  obtain rfl : u = Value.ref a := r
  obtain ⟨its, rv, ⟨o, h1, h2, n, h3⟩, _⟩ := I.tuple ha
  refine ⟨_, ?_, elt_isiS I hP hk hl hd g1 m1 g2 m2 rv⟩
  have hlen : its.toArray.size = ws.length := by rw [List.size_toArray, ← rv.length, List.length_map]
  rw [← hlen]
  exact it_tup (tab_lt I hP) ⟨o, h1, h2, n, h3⟩ (tup_ne I hP ha)
end
end Lk

namespace Lk
open PySem PySem.Spec PyProof.Rows L2 Evl
/-! ### defs that hold a generator expression: their code object is named -/
structure AtC (K : PySem.W.Frag) (mg : Str → Option Value) (x : Str) (st : Stmt) (ps : List Str) (c : Addr) : Prop where
  ex : ∃ f fd, Fun K x x st f fd ∧ mg x = some (.ref f) ∧ Binds K fd ps [] ∧ fd.code = .ref c
structure AtCK (K : PySem.W.Frag) (mg : Str → Option Value) (x : Str) (st : Stmt) (ps : List Str) (c : Addr) : Prop where
  ex : ∃ f fd, Fun K x x st f fd ∧ mg x = some (.ref f) ∧ (∀ (s : Shared) (ws : List Value), ws.length = ps.length → BindsTo s fd ⟨[], ps.zip ws⟩ (ps.zip ws)) ∧ fd.code = .ref c
section
variable {P : Program} {w : World} {K : PySem.W.Frag} {mg : Str → Option Value} {base : Heap} {x : Str} {st : Stmt} {ps : List Str} {k : Nat} {sp : Sp} {c : Addr}
theorem fn_okC {N : List Str} {f : Addr} {fd : FuncData} (F : Fun K x x st f fd) (hc : fd.code = .ref c) (S : FnScope N ps (defScope st)) (len : ∀ vs H Q E, sp vs H Q E → vs.length = ps.length)
    (hbody : ∀ (A : Around) (outer : List Env) (s : Shared) (H : Hp) (vs : List V) (Q : VK) (E : XK), Room k (A.deeper (envOfC x (defScope st) s.heap.objs.size f (.ref c))) → sp vs H Q E →
      ∃ t σ, start N vs = σ ∧ PSs (cxOf CX0 P w K mg base N x (defScope st) f (.ref c) A outer s H E).nox (defBody st) t ∧ t { nx := fun _ H' => Q .non H', rt := Q } σ H) : FnOk P w K mg base CX0 (k + 1) f fd ps sp := by
  obtain ⟨oc, od, kV, doc, pm, an, cdv, ct, osl, rfl, lk, hcd⟩ := F.ex
  obtain rfl : cdv = Value.ref c := hc
  refine fn_of lk hcd S len fun A outer s H vs Q E hr hsp => ?_
  obtain ⟨t, σ, e, h, q⟩ := hbody A outer s H vs Q E hr hsp
  subst e
  exact ⟨t, h.nox, q⟩
theorem AtC.of (A : AtC K mg x st ps c) (h : ∀ f fd, Fun K x x st f fd → fd.code = .ref c → FnOk P w K mg base CX0 k f fd ps sp) : Cal P w K mg base k x sp := by
  obtain ⟨f, fd, F1, g, b, e⟩ := A.ex
  exact ⟨⟨f, fd, ps, h f fd F1 e, g, F1.kp, b⟩⟩
theorem AtCK.of (A : AtCK K mg x st ps c) (h : ∀ f fd, Fun K x x st f fd → fd.code = .ref c → FnOk P w K mg base CX0 k f fd ps sp) : CalK P w K mg base k x sp ps := by
  obtain ⟨f, fd, F1, g, b, e⟩ := A.ex
  exact ⟨⟨f, fd, h f fd F1 e, g, F1.kp, b⟩⟩
end
/-- a look at a generator expression's scope: no name of its own in a cell, none captured -/
def gsB (sc : Scope) (x : Str) : Bool := sc.kind == .function && (!sc.isCoroutine && (sc.names.all (fun y => y.2 != .cell && y.2 != .free) && (sc.names.lookup (".0" : Str) == some NameKind.local && sc.names.lookup x == some NameKind.local)))
theorem genS0 {env : Env} {sc : Scope} {x : Str} (h : gsB sc x = true) : GxR.GenS env sc x := by
  unfold gsB at h
  simp only [Bool.and_eq_true, beq_iff_eq, Bool.not_eq_true', List.all_eq_true, bne_iff_ne, ne_eq] at h
  obtain ⟨h1, h2, h3, h4, h5⟩ := h
  exact ⟨h1, h2, fun y hy => (h3 y hy).1, h4, h5, fun y hy e => absurd e (h3 y hy).2⟩
/-- .. with captured names: they are in the def's cells -/
def gsF (sc : Scope) (x : Str) (fr : List Str) : Bool := sc.kind == .function && (!sc.isCoroutine && (sc.names.all (fun y => y.2 != .cell && (y.2 != .free || fr.contains y.1)) && (sc.names.lookup (".0" : Str) == some NameKind.local && sc.names.lookup x == some NameKind.local)))
theorem genSF {env : Env} {sc : Scope} {x : Str} {fr : List Str} (h : gsF sc x fr = true) (hf : ∀ y ∈ fr, ∃ c, env.cells.lookup y = some c) : GxR.GenS env sc x := by
  unfold gsF at h
  simp only [Bool.and_eq_true, Bool.or_eq_true, beq_iff_eq, Bool.not_eq_true', List.all_eq_true, bne_iff_ne, ne_eq, List.contains_iff_mem] at h
  obtain ⟨h1, h2, h3, h4, h5⟩ := h
  exact ⟨h1, h2, fun y hy => (h3 y hy).1, h4, h5, fun y hy e => hf y.1 ((h3 y hy).2.resolve_left fun z => z e)⟩
/-! ### the tables, as the top leaves them -/
def Tabs (q : Program) (K : PySem.W.Frag) (mg : Str → Option Value) (h : Heap) : Prop := ∀ (name : Str) (f c P : Addr) (oc e : Value) (od dd : Option Addr) (fd : FuncData) (vs : Array Value) (sl sl' : Array (Option Value)), ((recsOf q).any fun d => d.name == name) = true →
  mg name = some (.ref f) → K.lookup f = some ⟨oc, od, .func fd, sl⟩ → fd.code = .ref c → K.lookup c = some ⟨e, dd, .fields vs, sl'⟩ → vs[11]? = some (.ref P) → h.get? P = some { cls := .none, data := .fields #[] } ∧ PySem.W.CodeHd h c P
theorem tabs_of {q : Program} {loose : List Str} {R : PySem.W.WRecords} {XP : (Str → Option Value) → Heap → Prop} {w : World} {s₀ : Shared} {mg mb : Str → Option Value} {h : Heap} {K : PySem.W.Frag} (G : PySem.W.Ground q loose R XP w s₀ mg mb h) (KX : K.In h) : Tabs q K mg h := by
  intro name f c P oc e od dd fd vs sl sl' hrec hmg k1 k2 k3 k4
  obtain ⟨dL, hm, hn1⟩ := List.any_eq_true.mp hrec
  have hn2 : dL.name = name := beq_iff_eq.mp hn1
  obtain ⟨a', o', fd', c', P', h1, h2, h3, h4, h5, h6⟩ := G.T.tab dL hm
  rw [hn2, hmg] at h1
  cases h1
  have g1 := KX _ _ k1
  rw [g1] at h2
  cases h2
  cases h3
  rw [k2] at h4
  cases h4
  have h6' := h6
  obtain ⟨⟨oc', vc, e1, _, e3, e4⟩, hP⟩ := h6
  have g2 := KX _ _ k3
  rw [g2] at e1
  cases e1
  cases e3
  rw [k4] at e4
  cases e4
  exact ⟨hP, PySem.W.CodeHd.of h5 h6'⟩
/-! ### data of any depth in a tuple -/
def rInDT (K : PySem.W.Frag) : R2 := fun x y H Q => ∃ d ds, Dp K H x d ∧ Dp K H y (.tuple ds) ∧ SeqAt.shaped d = true ∧ SeqAt.shaped (.tuple ds) = true ∧ Q (.bl (ds.any fun z => PyData.eqv z d)) H
theorem op_inDT {X : Cx} (hu : X.A.units + 65 < cLine) : OpR X (compareOp .In) (rInDT X.K) := by
  intro pins s σ H x y v u Q I rx ry h
  obtain ⟨d, ds, hd, he, sd, se, q⟩ := h
  obtain ⟨as, r1⟩ := Dp.reads I d x v hd rx
  obtain ⟨bs, r2⟩ := Dp.reads I (.tuple ds) y u he ry
  exact SeqAt.in_tuple_reads r2 r1 (SeqAt.canLay_of_shaped se) (SeqAt.canLay_of_shaped sd) (room_in_shaped sd hu) ⟨.bl _, H, I, rfl, q⟩
/-! ### kinds of a thing -/
def kindB (T : String) : Bool := T == "int" || T == "bool" || T == "str" || T == "NoneType" || T == "tuple" || T == "list" || T == "dict"
theorem kind_cases {T : String} (h : kindB T = true) : T = "int" ∨ T = "bool" ∨ T = "str" ∨ T = "NoneType" ∨ T = "tuple" ∨ T = "list" ∨ T = "dict" := by
  unfold kindB at h
  simp only [Bool.or_eq_true, beq_iff_eq, or_assoc] at h
  exact h
/-- of a kind that isinstance is asked for -/
def Kd (K : PySem.W.Frag) (H : Hp) (v : V) (T : String) : Prop := kindB T = true ∧ TyX K H v (.type T)
theorem kit_int {K : PySem.W.Frag} {T : String} (h : kindB T = true) : PySem.W.kitOne K (.type T) (.type "int") = some (T == "int" || T == "bool") := by
  rcases kind_cases h with rfl | rfl | rfl | rfl | rfl | rfl | rfl <;> exact kit_ty (by decide +kernel)
theorem kit_bool {K : PySem.W.Frag} {T : String} (h : kindB T = true) : PySem.W.kitOne K (.type T) (.type "bool") = some (T == "bool") := by
  rcases kind_cases h with rfl | rfl | rfl | rfl | rfl | rfl | rfl <;> exact kit_ty (by decide +kernel)
theorem kit_str {K : PySem.W.Frag} {T : String} (h : kindB T = true) : PySem.W.kitOne K (.type T) (.type "str") = some (T == "str") := by
  rcases kind_cases h with rfl | rfl | rfl | rfl | rfl | rfl | rfl <;> exact kit_ty (by decide +kernel)
theorem kit_tuple {K : PySem.W.Frag} {T : String} (h : kindB T = true) : PySem.W.kitOne K (.type T) (.type "tuple") = some (T == "tuple") := by
  rcases kind_cases h with rfl | rfl | rfl | rfl | rfl | rfl | rfl <;> exact kit_ty (by decide +kernel)
theorem kd_int {K : PySem.W.Frag} {H : Hp} {i : Int} : Kd K H (.int i) "int" := ⟨by decide, .base (.int _)⟩
theorem kd_str {K : PySem.W.Frag} {H : Hp} {x : Str} : Kd K H (.str x) "str" := ⟨by decide, .base (.str _)⟩
theorem kd_non {K : PySem.W.Frag} {H : Hp} : Kd K H .non "NoneType" := ⟨by decide, .base .non⟩
theorem kd_tup {K : PySem.W.Frag} {H : Hp} {a : Addr} {xs : List V} (h : H a = some (.tup xs)) : Kd K H (.ref a) "tuple" := ⟨by decide, .base (.tup h)⟩
end Lk
namespace L2
open PySem
theorem Room.u65 {k : Nat} {A : Around} (r : Room k A) : A.units + 65 < cLine := by have := r.un; omega
end L2
namespace Lk
open PySem PySem.Spec PyProof.Rows L2 Evl
theorem g_chain {r r' : R2} {ta tb tc : TE} {σ : L2.St} {H : Hp} {Q : VK} (h : ta σ H fun x H1 => tb σ H1 fun y H2 => r x y H2 fun z H3 => ∃ k, z = .bl k ∧ (if k = true then tc σ H3 fun w' H4 => r' y w' H4 Q else Q (.bl false) H3)) : tChain r r' ta tb tc σ H Q := h
theorem g_allG {X : Cx} {P : Addr} {scope : Scope} {x : Str} {elt : Expr} {te : TE} {σ : L2.St} {H : Hp} {Q : VK} (h : te σ H fun v H1 => H1 P = some (TabO P) ∧ ∃ n pb, ItOk X scope x elt P v σ H1 n pb ∧ Q (.bl ((List.range n).all pb)) H1) : tAllG X P scope x elt te σ H Q := h
end Lk

namespace Lk
open PySem PySem.Spec PyProof.Rows L2 Evl
section
variable {X : Cx} {pins : List (Addr × Obj)} {σ : L2.St} {H : Hp} {s1 s : Shared} {P : Addr}
/-- what a captured name holds -/
theorem cell_slot {i : Nat} {o : Str} {v : V} (I : Inv X pins σ H s1) (hN : X.N[i]? = some o) (hσ : σ[i]? = some (some v)) (hk : X.env.kindOf o = some .cell) : ∃ c u, X.env.cells.lookup o = some c ∧ s1.heap.IsCell c (some u) ∧ RelV v u := by
  obtain ⟨m, _, h⟩ := I.loc
  obtain ⟨u, r, l⟩ := h i o v hN hσ (.inr (.inl hk))
  rcases l with ⟨l, _⟩ | ⟨_, c, e, hc⟩
  · rw [hk] at l
    cases l
  · exact ⟨c, u, e, hc, r⟩
theorem ge_cap {scope : Scope} {cenv : Env} {A' : Around} {E' : Value → Shared → Prop} {s₂ : Shared} {o : Str} {c : Addr} {v : Value} {p : Pos} {Q : Value → Shared → Prop} (I : Inv X pins σ H s1) (hP : H P = some (TabO P)) (kp : ∀ b o, b ≠ P → s1.heap.get? b = some o → s₂.heap.get? b = some o)
    (GE : GEnv X scope cenv) (hk : scope.kind = .function) (hl : scope.names.lookup o = some .free) (hc : (cloFrom X.env.cells scope.names []).lookup o = some c) (hv : s1.heap.IsCell c (some v)) (hd : (o == ("__debug__" : Str)) = false) (hn : (o == ("__classdict__" : Str)) = false)
    (h : Q v s₂) : wpAny (model X.prog X.w) A' (eval (.Name o p) cenv) Q E' s₂ := by
  obtain ⟨ob, e, d⟩ := hv
  have hne : c ≠ P := fun z => by
    obtain ⟨ps, e2⟩ := tab_at I hP
    rw [z, e2] at e
    cases e
    cases d
  exact wpAny_Name (wpAny_loadName_free (by rw [GE.sc]; exact hk) (show cenv.scope.names.lookup o = _ by rw [GE.sc]; exact hl) (by rw [GE.ce]; exact hc) ⟨ob, kp _ _ hne e, d⟩ h hn) hd
theorem strs_are : ∀ {ws : List Str} {its : List Value}, Vals (ws.map V.str) its → StrsAre its ws
  | [], _, r => by
    cases r
    exact .nil
  | y :: ws, _, r => by
    cases r with
    | cons r1 r2 =>
      obtain ⟨t, rfl⟩ := r1
      exact .cons y t (strs_are r2)
theorem item_str {ws : List Str} {its : List Value} {i : Nat} {v : Value} (rv : Vals (ws.map V.str) its) (hv : its.toArray[i]? = some v) : ∃ (y : Str) (t : Tok), ws[i]? = some y ∧ v = .str y t := by
  have hv2 : its[i]? = some v := by simpa using hv
  have hi : i < its.length := (List.getElem?_eq_some_iff.mp hv2).1
  have hl := rv.length
  rw [List.length_map] at hl
  have hw : i < ws.length := by omega
  obtain ⟨u, hu, ru⟩ := rv.get (show (ws.map V.str)[i]? = some (V.str ws[i]) by rw [List.getElem?_map, List.getElem?_eq_getElem hw] <;> rfl)
  rw [hv2] at hu
  cases hu
  obtain ⟨t, e⟩ := _root_.id ru
  exact ⟨_, t, List.getElem?_eq_getElem hw, e⟩
/-- x in o[C]: texts in a tuple of texts that stands in a captured tuple -/
theorem elt_inSub {scope : Scope} {x o C : Str} {c tp dp : Addr} {j : Nat} {ct : Value} {xs : List V} {us ws : List Str} {its : List Value} {p1 p2 p3 p4 p5 : Pos} (I : Inv X pins σ H s1) (hP : H P = some (TabO P)) (hk : scope.kind = .function) (hl : scope.names.lookup x = some .local) (hd : (x == ("__debug__" : Str)) = false)
    (ho : scope.names.lookup o = some .free) (do1 : (o == ("__debug__" : Str)) = false) (do2 : (o == ("__classdict__" : Str)) = false) (hc : (cloFrom X.env.cells scope.names []).lookup o = some c) (hv : s1.heap.IsCell c (some (.ref tp)))
    (hC : scope.names.lookup C = some .globalImplicit) (mC : X.mg C = some ct) (rC : RelV (.int j) ct) (dC : (C == ("__debug__" : Str)) = false) (hj : (j : Int) < 1000000) (ht : SqT X.K H tp xs) (hx : xs[j]? = some (.ref dp)) (hdp : SqT X.K H dp (us.map V.str)) (rv : Vals (ws.map V.str) its) :
    EltOk X scope x (.Compare (.Name x p1) [.In] [.Subscript (.Name o p2) (.Name C p3) p4] p5) P s1 (fun i v => its.toArray[i]? = some v) (fun i => (ws[i]?.map fun y => us.any (· == y)).getD false) := by
  intro cenv A' E' i v s₂ m₂ GE hA hD hU hv2 hn hm kp
  obtain ⟨y, t, hy, rfl⟩ := item_str rv hv2
  have kb := ge_kb I hP kp
  obtain ⟨ii, rt, ⟨ob, e1, e2, n, e3⟩, hz⟩ := I.tuple ht
  obtain ⟨jj, rd, ⟨oc, g1, g2, n2, g3⟩, _⟩ := I.tuple hdp
  have ne1 := tup_ne I hP ht
  have ne2 := tup_ne I hP hdp
  obtain ⟨w, hw, rw'⟩ := rt.get hx
  obtain rfl : w = Value.ref dp := rw'
  obtain ⟨tt, rfl⟩ := _root_.id rC
  have hjl : j < ii.length := (List.getElem?_eq_some_iff.mp hw).1
  refine wpAny_Compare1 (ge_own GE hk hl hn hm hd ?_) (by rfl)
  refine Subscript_ (ge_cap I hP kp GE hk ho hc hv do1 do2 (ge_glob I kb GE hk hC mC dC ?_))
  refine subscriptTail_builtinR (x := .ref dp) (T := "tuple") ⟨ob, kp _ _ ne1 e1, e2⟩ slot_tuple_getitem.lookup
    (getItem_tuple (j := j) (Q := fun r s' => r = .ref dp ∧ wpAny (model X.prog X.w) A' (compareOp .In (.str y t) r) _ E' s') ⟨ob, kp _ _ ne1 e1, e2, n, e3⟩ (by omega) (by omega) ?_ (by simpa using hw) ⟨rfl, ?_⟩) rfl
  · rw [List.size_toArray]
    unfold seqIndex?
    simp
    omega
  · refine in_tuple_strs ⟨oc, kp _ _ ne2 g1, g2, n2, g3⟩ (by simpa using strs_are rd) ⟨?_, GxR.keeps_refl _⟩
    simp only [hy, Option.map_some, Option.getD_some]
theorem ok_inSub {scope : Scope} {x o C : Str} {tp dp a : Addr} {i j : Nat} {ct : Value} {xs : List V} {us ws : List Str} {p1 p2 p3 p4 p5 : Pos} (hP : H P = some (TabO P)) (hk : scope.kind = .function) (hl : scope.names.lookup x = some .local) (ho : scope.names.lookup o = some .free)
    (hclo : ∀ c, X.env.cells.lookup o = some c → (cloFrom X.env.cells scope.names []).lookup o = some c) (hN : X.N[i]? = some o) (hσ : σ[i]? = some (some (.ref tp))) (ho2 : X.env.kindOf o = some .cell) (hC : scope.names.lookup C = some .globalImplicit) (mC : X.mg C = some ct) (rC : RelV (.int j) ct) (hj : (j : Int) < 1000000)
    (ht : SqT X.K H tp xs) (hx : xs[j]? = some (.ref dp)) (hdp : SqT X.K H dp (us.map V.str)) (ha : SqT X.K H a (ws.map V.str)) (hd : (x == ("__debug__" : Str)) = false := by decide) (do1 : (o == ("__debug__" : Str)) = false := by decide) (do2 : (o == ("__classdict__" : Str)) = false := by decide)
    (dC : (C == ("__debug__" : Str)) = false := by decide) :
    ItOk X scope x (.Compare (.Name x p1) [.In] [.Subscript (.Name o p2) (.Name C p3) p4] p5) P (.ref a) σ H ws.length (fun i => (ws[i]?.map fun y => us.any (· == y)).getD false) := fun pins s u I r => by
  obtain rfl : u = Value.ref a := r
  obtain ⟨its, rv, ⟨ob, h1, h2, n, h3⟩, _⟩ := I.tuple ha
  obtain ⟨c, cv, e1, e2, e3⟩ := cell_slot I hN hσ ho2
  obtain rfl : cv = Value.ref tp := e3
  refine ⟨_, ?_, elt_inSub I hP hk hl hd ho do1 do2 (hclo c e1) e2 hC mC rC dC hj ht hx hdp rv⟩
  have hlen : its.toArray.size = ws.length := by rw [List.size_toArray, ← rv.length, List.length_map]
  rw [← hlen]
  exact it_tup (tab_lt I hP) ⟨ob, h1, h2, n, h3⟩ (tup_ne I hP ha)
theorem all_ix {α : Type} (f : α → Bool) (ws : List α) : (List.range ws.length).all (fun i => (ws[i]?.map f).getD false) = ws.all f := by
  rw [Bool.eq_iff_iff, List.all_eq_true, List.all_eq_true]
  constructor
  · intro h b hb
    obtain ⟨j, hj, e⟩ := List.getElem_of_mem hb
    have q := h j (List.mem_range.mpr hj)
    rw [List.getElem?_eq_getElem hj, e] at q
    exact q
  · intro h j hj
    have hj' := List.mem_range.mp hj
    rw [List.getElem?_eq_getElem hj']
    exact h _ (List.getElem_mem hj')
end
/-! ### a call by two keywords, the second parameter first -/
structure CalS (P : Program) (w : World) (K : PySem.W.Frag) (mg : Str → Option Value) (base : Heap) (k : Nat) (x : Str) (sp : Sp) (a b : Str) : Prop where
  ex : ∃ (f : Addr) (fd : FuncData), FnOk P w K mg base CX0 k f fd [a, b] sp ∧ mg x = some (.ref f) ∧ PySem.W.keepIn K (.ref f) = true ∧ ∀ (s : Shared) (v1 v2 : Value), BindsTo s fd ⟨[], [(b, v1), (a, v2)]⟩ [(a, v2), (b, v1)]
/-- .. of a def that holds a generator expression -/
structure AtCS (K : PySem.W.Frag) (mg : Str → Option Value) (x : Str) (st : Stmt) (a b : Str) (c : Addr) : Prop where
  ex : ∃ f fd, Fun K x x st f fd ∧ mg x = some (.ref f) ∧ (∀ (s : Shared) (v1 v2 : Value), BindsTo s fd ⟨[], [(b, v1), (a, v2)]⟩ [(a, v2), (b, v1)]) ∧ fd.code = .ref c
theorem AtCS.of {P : Program} {w : World} {K : PySem.W.Frag} {mg : Str → Option Value} {base : Heap} {x a b : Str} {st : Stmt} {k : Nat} {sp : Sp} {c : Addr} (A : AtCS K mg x st a b c) (h : ∀ f fd, Fun K x x st f fd → fd.code = .ref c → FnOk P w K mg base CX0 k f fd [a, b] sp) : CalS P w K mg base k x sp a b := by
  obtain ⟨f, fd, F1, g, b, e⟩ := A.ex
  exact ⟨⟨f, fd, h f fd F1 e, g, F1.kp, b⟩⟩
section
variable {X : Cx} {k j : Nat} {x a b : Str} {sp : Sp} {p pos : Pos} {kws : List Keyword} {tk : TA}
def tCallS (sp : Sp) (t : TA) : TE := fun σ H Q => t σ H fun zs H2 => ∃ y z, zs = [y, z] ∧ sp [z, y] H2 Q E0
theorem pe_cs (c : CalS X.prog X.w X.K X.mg X.base k x sp a b) (hr : Room j X.A) (hk : k ≤ j) (hg : Gl X x) (hkw : PK X kws tk)
    (hall : (backToKw pos (keywordEach kws X.env)).all (·.1.isSome) = true := by rfl) (hks : (backToKw pos (keywordEach kws X.env)).filterMap (·.1) = [b, a] := by rfl) (hdb : (x == ("__debug__" : Str)) = false := by decide)
    (hpl : ((backTo pos (starEach [] X.env)).any (·.1) || (backToKw pos (keywordEach kws X.env)).any (·.1.isNone)) = false := by rfl) :
    PE X (.Call (.Name x p) [] kws pos) (tCallS sp tk) := by
  obtain ⟨f, fd, F, hm, kp, b⟩ := c.ex
  refine ⟨fun pins s σ H Q I h => ?_⟩
  refine wpAny_Call_Name_kw (ld_glob I hg hm ?_ hdb)
  refine PySem.W.callWith_KW0 (h₀ := X.base) I.ok.mod.kin kp hall ?_ hpl
  refine thn (hkw.run pos pins s σ H _ I h) fun ws s2 ⟨zs, H2, I2, rz, q2⟩ => ⟨I2.kIn, ?_⟩
  obtain ⟨y, z, rfl, q2⟩ := q2
  obtain ⟨u1, u2, rfl, r1, r2⟩ := vals2 rz
  rw [hks]
  refine wpAny_call (codeAny_mono (F.run X.A X.stack s2 H2 ⟨[], _⟩ [u2, u1] [z, y] Q E0 (hr.mono hk) I2.env0 (b s2 u1 u2) (.cons r2 (.cons r1 .nil)) q2) fun r s' hq => ?_)
  cases r with
  | error e => exact False.elim hq
  | ok fl =>
    cases fl with
    | ret u => exact I2.after hq
    | next => exact False.elim hq
    | brk => exact False.elim hq
    | cont => exact False.elim hq
theorem g_callS {σ : L2.St} {H : Hp} {Q : VK} {t : TA} (h : t σ H fun zs H2 => ∃ y z, zs = [y, z] ∧ sp [z, y] H2 Q E0) : tCallS sp t σ H Q := h
end
/-! ### in a comprehension's block: K by name -/
section
variable {X : Cx} {K : PySem.W.Frag}
theorem ix_tupK (h : X.K = K) : IxR X (rIxT K) := by
  subst h
  exact ix_tup
theorem ix_listK (h : X.K = K) : IxR X (rIxL K) := by
  subst h
  exact ix_list
theorem op_in_seqK (h : X.K = K) : OpR X (compareOp .In) (rIn K false) := by
  subst h
  exact op_in_seq
theorem op_notIn_seqK (h : X.K = K) : OpR X (compareOp .NotIn) (rIn K true) := by
  subst h
  exact op_notIn_seq
theorem call_isiK (h : X.K = K) : CallR X (.builtin "isinstance") (rIsi K) := by
  subst h
  exact call_isi
end
/-! ### comprehensions over a tuple, a list: a test and an item that leave the heap -/
theorem lcT {K : PySem.W.Frag} {a Dl : Addr} {xs : List V} {j : Nat} {tt : TT} {te : TE} {σ : L2.St} {H1 : Hp} {Qd : Hp → Prop} (tb : V → Bool) (fe : V → V) (hz : xs.length ≤ 100000) (hD : H1 Dl = none) (ha : SqT K H1 a xs)
    (hs : ∀ x ∈ xs, ∀ (H : Hp) (R : Bool → Hp → Prop), Ex H1 H → R (tb x) H → tt ((wipe σ [j]).set j (some x)) H R) (he : ∀ x ∈ xs, ∀ (H : Hp) (R : VK), Ex H1 H → R (fe x) H → te ((wipe σ [j]).set j (some x)) H R)
    (hd : ∀ H, Ex H1 H → H Dl = some (.lst ((xs.filter tb).map fe)) → Qd H) :
    ∃ W : Nat → Nat → Hp → Prop, (∃ m, W 0 m (upd H1 Dl (.lst []))) ∧ ∀ i m H, W i m H →
      ((Itt K a).stop i H ∧ Qd H) ∨ ((Itt K a).go i H ∧ ∃ Nx : Hp → Prop, (∀ H', Nx H' → ∃ m', m' < m ∧ W (i + 1) m' H') ∧ ∀ x H', (Itt K a).yld i H x H' → gName j x (wipe σ [j]) H' fun σ2 H2 => wipe σ2 [j] = wipe σ [j] ∧ tt σ2 H2 fun b H3 =>
        if b = true then te σ2 H3 fun y H4 => ∃ acc, H4 Dl = some (.lst acc) ∧ acc.length < sizeLine ∧ Nx (upd H4 Dl (.lst (acc ++ [y]))) else Nx H3) := by
  refine ⟨fun i m H => m = xs.length - i ∧ i ≤ xs.length ∧ Ex H1 H ∧ H Dl = some (.lst (((xs.take i).filter tb).map fe)), ⟨xs.length, by simp, Nat.zero_le _, Ex.new hD, by rw [upd_same] <;> rfl⟩, ?_⟩
  rintro i m H ⟨rfl, hi, e, hl⟩
  have ha' := ex_t e ha
  by_cases hlt : i < xs.length
  · have hx : xs[i]? = some xs[i] := List.getElem?_eq_getElem hlt
    have hm : xs[i] ∈ xs := List.getElem_mem hlt
    have htk : xs.take (i + 1) = xs.take i ++ [xs[i]] := by rw [List.take_succ, hx] <;> rfl
    refine .inr ⟨⟨xs, _, ha', hx⟩, fun H' => Ex H1 H' ∧ H' Dl = some (.lst (((xs.take (i + 1)).filter tb).map fe)), fun H' q' => ⟨xs.length - (i + 1), by omega, rfl, hlt, q'⟩, fun v H' y => ?_⟩
    obtain ⟨rfl, y⟩ := y
    have y' := y xs ha'
    rw [hx] at y'
    cases y'
    refine ⟨wipe1 _, hs _ hm _ _ e ?_⟩
    cases hb : tb xs[i] with
    | false =>
      refine ite_ff ⟨e, ?_⟩
      rw [hl, htk, List.filter_append, List.filter_cons_of_neg (by rw [hb]; decide)] <;> simp
    | true =>
      refine ite_tt (he _ hm _ _ e ⟨_, hl, ?_, e.mut hD, ?_⟩)
      · have l1 := List.length_filter_le tb (xs.take i)
        rw [List.length_map]
        exact Nat.lt_of_le_of_lt (Nat.le_trans l1 (Nat.le_trans (List.length_take_le' i xs) hz)) (by decide)
      · rw [upd_same, htk, List.filter_append, List.filter_cons_of_pos hb] <;> simp
  · have e2 : i = xs.length := by omega
    subst e2
    refine .inl ⟨⟨xs, ha', Nat.le_refl _⟩, hd H e ?_⟩
    rw [hl, List.take_length]
theorem lcL {K : PySem.W.Frag} {a Dl : Addr} {xs : List V} {j : Nat} {tt : TT} {te : TE} {σ : L2.St} {H1 : Hp} {Qd : Hp → Prop} (tb : V → Bool) (fe : V → V) (hz : xs.length ≤ 100000) (hD : H1 Dl = none) (ha : SqL K H1 a xs)
    (hs : ∀ x ∈ xs, ∀ (H : Hp) (R : Bool → Hp → Prop), Ex H1 H → (∀ H', Ex H H' → R (tb x) H') → tt ((wipe σ [j]).set j (some x)) H R) (he : ∀ x ∈ xs, ∀ (H : Hp) (R : VK), Ex H1 H → R (fe x) H → te ((wipe σ [j]).set j (some x)) H R)
    (hd : ∀ H, Ex H1 H → H Dl = some (.lst ((xs.filter tb).map fe)) → Qd H) :
    ∃ W : Nat → Nat → Hp → Prop, (∃ m, W 0 m (upd H1 Dl (.lst []))) ∧ ∀ i m H, W i m H →
      ((Itl K a).stop i H ∧ Qd H) ∨ ((Itl K a).go i H ∧ ∃ Nx : Hp → Prop, (∀ H', Nx H' → ∃ m', m' < m ∧ W (i + 1) m' H') ∧ ∀ x H', (Itl K a).yld i H x H' → gName j x (wipe σ [j]) H' fun σ2 H2 => wipe σ2 [j] = wipe σ [j] ∧ tt σ2 H2 fun b H3 =>
        if b = true then te σ2 H3 fun y H4 => ∃ acc, H4 Dl = some (.lst acc) ∧ acc.length < sizeLine ∧ Nx (upd H4 Dl (.lst (acc ++ [y]))) else Nx H3) := by
  refine ⟨fun i m H => m = xs.length - i ∧ i ≤ xs.length ∧ Ex H1 H ∧ H Dl = some (.lst (((xs.take i).filter tb).map fe)), ⟨xs.length, by simp, Nat.zero_le _, Ex.new hD, by rw [upd_same] <;> rfl⟩, ?_⟩
  rintro i m H ⟨rfl, hi, e, hl⟩
  have ha' := ex_l e ha
  by_cases hlt : i < xs.length
  · have hx : xs[i]? = some xs[i] := List.getElem?_eq_getElem hlt
    have hm : xs[i] ∈ xs := List.getElem_mem hlt
    have htk : xs.take (i + 1) = xs.take i ++ [xs[i]] := by rw [List.take_succ, hx] <;> rfl
    refine .inr ⟨⟨xs, _, ha', hx⟩, fun H' => Ex H1 H' ∧ H' Dl = some (.lst (((xs.take (i + 1)).filter tb).map fe)), fun H' q' => ⟨xs.length - (i + 1), by omega, rfl, hlt, q'⟩, fun v H' y => ?_⟩
    obtain ⟨rfl, y⟩ := y
    have y' := y xs ha'
    rw [hx] at y'
    cases y'
    refine ⟨wipe1 _, hs _ hm _ _ e fun H3 e3 => ?_⟩
    cases hb : tb xs[i] with
    | false =>
      refine ite_ff ⟨e.trans e3, ?_⟩
      rw [e3 _ _ hl, htk, List.filter_append, List.filter_cons_of_neg (by rw [hb]; decide)] <;> simp
    | true =>
      refine ite_tt (he _ hm _ _ (e.trans e3) ⟨_, e3 _ _ hl, ?_, (e.trans e3).mut hD, ?_⟩)
      · have l1 := List.length_filter_le tb (xs.take i)
        rw [List.length_map]
        exact Nat.lt_of_le_of_lt (Nat.le_trans l1 (Nat.le_trans (List.length_take_le' i xs) hz)) (by decide)
      · rw [upd_same, htk, List.filter_append, List.filter_cons_of_pos hb] <;> simp
  · have e2 : i = xs.length := by omega
    subst e2
    refine .inl ⟨⟨xs, ha', Nat.le_refl _⟩, hd H e ?_⟩
    rw [hl, List.take_length]
theorem g_BM {K : PySem.W.Frag} {Ty : String} {r : V → List V → Hp → VK → Prop} {to : TE} {t : TA} {σ : L2.St} {H : Hp} {Q : VK} (h : to σ H fun x H1 => tyV K Ty x H1 ∧ t σ H1 fun xs H2 => r x xs H2 Q) : tBM K Ty r to t σ H Q := h
end Lk

namespace K10
open PySem PySem.Spec PyProof.Rows L2 Lk Evl









def topS (i : Nat) : Stmt := PySem.Challenge.pw_leavechain_k10_whole_passed_on.main.body.getD i (.Pass ⟨0, 0, 0, 0⟩)
abbrev s_is_whole : Stmt := topS 4
theorem sc_is_whole : FnScope ["thing"] ["thing"] (defScope s_is_whole) := ⟨rfl, rfl, rfl, by decide +kernel, rfl, by decide +kernel, by decide +kernel⟩
abbrev s_is_between : Stmt := topS 5
theorem sc_is_between : FnScope ["thing", "least", "most"] ["thing", "least", "most"] (defScope s_is_between) := ⟨rfl, rfl, rfl, by decide +kernel, rfl, by decide +kernel, by decide +kernel⟩
abbrev s_is_moment : Stmt := topS 6
theorem sc_is_moment : FnScope ["thing"] ["thing"] (defScope s_is_moment) := ⟨rfl, rfl, rfl, by decide +kernel, rfl, by decide +kernel, by decide +kernel⟩
abbrev s_is_span : Stmt := topS 7
theorem sc_is_span : FnScope ["since", "until"] ["since", "until"] (defScope s_is_span) := ⟨rfl, rfl, rfl, by decide +kernel, rfl, by decide +kernel, by decide +kernel⟩
abbrev s_is_name : Stmt := topS 8
theorem sc_is_name : FnScope ["thing"] ["thing"] (defScope s_is_name) := ⟨rfl, rfl, rfl, by decide +kernel, rfl, by decide +kernel, by decide +kernel⟩
abbrev s_is_deeds : Stmt := topS 9
theorem sc_is_deeds : FnScope ["thing"] ["thing"] (defScope s_is_deeds) := ⟨rfl, rfl, rfl, by decide +kernel, rfl, by decide +kernel, by decide +kernel⟩
abbrev s_is_leave : Stmt := topS 19
theorem sc_is_leave : FnScope ["thing", "number", "room", "deeds", "giver", "holder", "since", "until", "passes", "under"] ["thing"] (defScope s_is_leave) := ⟨rfl, rfl, rfl, by decide +kernel, rfl, by decide +kernel, by decide +kernel⟩
abbrev s_lies_within : Stmt := topS 20
theorem sc_lies_within : FnScope ["leave", "other"] ["leave", "other"] (defScope s_lies_within) := ⟨rfl, rfl, rfl, by decide +kernel, rfl, by decide +kernel, by decide +kernel⟩
abbrev s__law_urn : Stmt := topS 22
theorem sc__law_urn : FnScope ["cell", "k"] ["cell", "k"] (defScope s__law_urn) := ⟨rfl, rfl, rfl, by decide +kernel, rfl, by decide +kernel, by decide +kernel⟩
abbrev s__law_lot : Stmt := topS 23
theorem sc__law_lot : FnScope ["urn", "many", "found", "spun"] ["urn", "many"] (defScope s__law_lot) := ⟨rfl, rfl, rfl, by decide +kernel, rfl, by decide +kernel, by decide +kernel⟩
abbrev s__law_named : Stmt := topS 24
theorem sc__law_named : FnScope ["urn", "letters", "some", "k"] ["urn"] (defScope s__law_named) := ⟨rfl, rfl, rfl, by decide +kernel, rfl, by decide +kernel, by decide +kernel⟩
abbrev s__law_leaf : Stmt := topS 25
theorem sc__law_leaf : FnScope ["urn", "number", "above", "giver", "holder", "since", "until", "deeds"] ["urn"] (defScope s__law_leaf) := ⟨rfl, rfl, rfl, by decide +kernel, rfl, by decide +kernel, by decide +kernel⟩
abbrev s__law_passed : Stmt := topS 26
theorem sc__law_passed : FnScope ["urn", "leaf", "names", "number", "room", "deeds", "giver", "holder", "since", "until", "passes", "above", "begin", "end", "may", "left", "own", "name"] ["urn", "leaf", "names"] (defScope s__law_passed) := ⟨rfl, rfl, rfl, by decide +kernel, rfl, by decide +kernel, by decide +kernel⟩
abbrev s__law_row : Stmt := topS 27
theorem sc__law_row : FnScope ["urn", "first", "many", "names", "found"] ["urn"] (defScope s__law_row) := ⟨rfl, rfl, rfl, by decide +kernel, rfl, by decide +kernel, by decide +kernel⟩
abbrev s__law_beyond : Stmt := topS 28
theorem sc__law_beyond : FnScope ["leaf", "other", "number", "room", "deeds", "giver", "holder", "since", "until", "passes", "above", "place", "keeper", "name", "found"] ["leaf", "other"] (defScope s__law_beyond) := ⟨rfl, rfl, rfl, by decide +kernel, rfl, by decide +kernel, by decide +kernel⟩
abbrev s__law_pair_right : Stmt := topS 29
theorem sc__law_pair_right : FnScope ["row", "at", "leaf", "one", "deed"] ["row", "at"] (defScope s__law_pair_right) := ⟨rfl, rfl, rfl, by decide +kernel, rfl, by decide +kernel, by decide +kernel⟩
abbrev s__law_right : Stmt := topS 30
theorem sc__law_right : FnScope ["urn", "row", "at"] ["urn"] (defScope s__law_right) := ⟨rfl, rfl, rfl, by decide +kernel, rfl, by decide +kernel, by decide +kernel⟩
abbrev s_law : Stmt := topS 31
theorem sc_law : FnScope ["script", "k", "cell"] ["script"] (defScope s_law) := ⟨rfl, rfl, rfl, by decide +kernel, rfl, by decide +kernel, by decide +kernel⟩
local macro_rules | `(tactic| walk_at "hx") => `(tactic| first
  | exact UA.ix (by assumption)
  | exact UA.ix (UA.ex' (by assumption) (by assumption))
  | exact UA.ix (UA.ex' (by assumption) (UA.ex' (by assumption) (by assumption)))
  | exact UA.ix (UA.ex' (by assumption) (UA.ex' (by assumption) (UA.ex' (by assumption) (by assumption)))))
local macro_rules | `(tactic| walk_at "tr1") => `(tactic| first
  | ((with_reducible show SqL _ _ _ _); first
    | assumption
    | exact .inl (.inl (by assumption))
    | with_reducible refine' ex_l (by assumption) ?_
    | (with_reducible refine' kp_l (by assumption) ?hx ?_); (case hx => walk_at "hx"))
  | ((with_reducible show SqT _ _ _ _); first
    | assumption
    | exact .inl (.inl (by assumption))
    | with_reducible refine' ex_t (by assumption) ?_
    | (with_reducible refine' kp_t (by assumption) ?hx ?_); (case hx => walk_at "hx"))
  | ((with_reducible show _ = some _); first
    | assumption
    | with_reducible refine' ex_lst (by assumption) ?_
    | (with_reducible refine' kp_lst (by assumption) ?hx ?_); (case hx => walk_at "hx")
    | (with_reducible refine' kp_tup (by assumption) ?hx ?_); (case hx => walk_at "hx")
    | (with_reducible refine' kp_dK (by assumption) ?hx ?_); (case hx => walk_at "hx")))
local macro_rules | `(tactic| walk_at "tr") => `(tactic| (repeat (any_goals (walk_at "tr1"))); done)
local macro_rules | `(tactic| walk_at "ix") => `(tactic| first
  | (with_reducible show rIxL _ _ _ _ _); (refine' g_ixLm ?hs ?h0 ?h1 ?hq); (case hs => walk_at "tr"); (case h0 => omega); (case h1 => (simp only [List.length_cons, List.length_nil]; omega)); (case' hq => skip)
  | (with_reducible show rIxT _ _ _ _ _); (refine' g_ixTm ?hs ?h0 ?h1 ?hq); (case hs => walk_at "tr"); (case h0 => omega); (case h1 => (simp only [List.length_cons, List.length_nil]; omega)); (case' hq => skip)
  | (with_reducible show rIxS _ _ _ _); (refine' g_ixSm ?hs ?h0 ?h1 ?hq); (case hs => decide +kernel); (case h0 => omega); (case h1 => exact Int.lt_of_lt_of_le (by assumption) (by decide +kernel)); (case' hq => skip))
local macro_rules | `(tactic| walk_at "g1") => `(tactic| first
  | (with_reducible show tVar _ _ _ _); refine g_var rfl ?_
  | with_reducible refine g_c ?_
  | (with_reducible refine g_seq ?_); (try dsimp only [List.set_cons_succ, List.set_cons_zero])
  | with_reducible refine g_op ?_
  | with_reducible refine g_un ?_
  | with_reducible refine g_I0 ?_
  | with_reducible refine g_U ?_
  | (with_reducible refine g_Eq ?hs ?_); (case hs => rfl)
  | (with_reducible refine g_Ne ?hs ?_); (case hs => rfl)
  | with_reducible refine g_test ?_
  | with_reducible refine g_B ?_
  | with_reducible refine g_ifS ?_
  | with_reducible refine g_asg ?_
  | with_reducible refine g_asgG ?_
  | with_reducible refine g_ret ?_
  | with_reducible refine g_retU ?_
  | with_reducible refine g_drop ?_
  | with_reducible refine g_next ?_
  | with_reducible refine g_name ?_
  | with_reducible refine g_and ?_
  | with_reducible refine g_or ?_
  | with_reducible refine g_not ?_
  | with_reducible refine g_andV ?_
  | with_reducible refine g_orV ?_
  | with_reducible refine g_notV ?_
  | with_reducible refine g_if ?_
  | with_reducible refine g_nil ?_
  | with_reducible refine g_cons ?_
  | with_reducible refine g_call ?_
  | with_reducible refine g_callKw ?_
  | with_reducible refine g_callS ?_
  | with_reducible refine g_cb ?_
  | with_reducible refine g_tup ?_
  | with_reducible refine g_lst ?_
  | with_reducible refine g_ipI ?_
  | with_reducible refine g_sub ?_
  | with_reducible refine g_augS ?_
  | (with_reducible show tAug _ _ _ _ _ _); refine g_aug rfl ?_
  | with_reducible refine g_M1 ?_
  | with_reducible refine g_M0 ?_
  | with_reducible refine g_yes ?_
  | with_reducible refine g_sl ?_
  | with_reducible refine g_nopart ?_
  | with_reducible refine g_part ?_
  | with_reducible refine g_lc ?_
  | with_reducible refine g_join ?_
  | (with_reducible show gTup _ _ _ (V.ref _) _ _ _); (refine' ⟨_, _, rfl, ?hs, ?hl, ?hm⟩); (case hs => walk_at "tr"); (case hl => rfl); (case' hm => skip)
  | (with_reducible show gCons _ _ _ _ _ _); (refine ⟨_, _, rfl, ?_⟩)
  | (with_reducible show gNil _ _ _ _); (refine ⟨rfl, ?_⟩)
  | (with_reducible show V.non = V.non ∧ _); (refine ⟨rfl, ?_⟩)
  | (with_reducible show rSlT _ _ _ _ _ _); (refine' g_slT ?hs ?hn ?hy ?hm); (case hs => walk_at "tr"); (case hn => first | exact fun z => absurd z.2 (Nat.ne_of_beq_eq_false rfl) | exact fun z => absurd z.1 (Nat.ne_of_beq_eq_false rfl)); (case hy => rfl); (case' hm => skip)
  | (with_reducible show rSlL _ _ _ _ _ _); (refine' g_slL ?hs ?hm); (case hs => walk_at "tr"); (case' hm => skip)
  | with_reducible refine g_js ?_
  | with_reducible refine g_js0 ?_
  | with_reducible refine g_fmt ?_
  | with_reducible refine g_for ?_
  | with_reducible refine g_iR1 ?_
  | with_reducible refine g_iL ?_
  | with_reducible refine g_iT ?_
  | with_reducible refine g_iE ?_
  | with_reducible refine g_iZ ?_
  | (with_reducible show ∃ k, V.bl _ = V.bl k ∧ _); refine ⟨_, rfl, ?_⟩
  | (with_reducible show ∃ k, V.int _ = V.int k ∧ _); refine ⟨_, rfl, ?_⟩
  | (with_reducible show (∃ a, V.str _ = V.str a) ∧ _); refine ⟨⟨_, rfl⟩, ?_⟩
  | (with_reducible show ∃ j : Int, [V.int _] = [V.int j] ∧ -(2 ^ 62) ≤ j ∧ _); (refine ⟨_, rfl, ?h0, ?h1, ?hm⟩); (case h0 => omega); (case h1 => omega); (case' hm => skip)
  | (with_reducible show ∃ i j : Int, [V.int _, V.int _] = [V.int i, V.int j] ∧ _); (refine ⟨_, _, rfl, ?_⟩)
  | (with_reducible show (∃ i : Int, [V.bl _] = [V.int i] ∧ _) ∨ _); (refine .inr ⟨_, rfl, ?_⟩)
  | (with_reducible show (∃ i : Int, [V.int _] = [V.int i] ∧ _) ∨ _); (refine .inl ⟨_, rfl, ?_⟩)
  | (with_reducible show ∃ a, V.ref _ = V.ref a ∧ (∃ xs, SqL _ _ a xs) ∧ _); (refine' ⟨_, rfl, ⟨_, ?hs⟩, ?hm⟩); (case hs => walk_at "tr"); (case' hm => skip)
  | (with_reducible show ∃ a, V.ref _ = V.ref a ∧ (∃ xs, SqT _ _ a xs) ∧ _); (refine' ⟨_, rfl, ⟨_, ?hs⟩, ?hm⟩); (case hs => walk_at "tr"); (case' hm => skip)
  | (with_reducible show ∃ a xs, [V.ref _] = [V.ref a] ∧ SqL _ _ a xs ∧ _); (refine' ⟨_, _, rfl, ?hs, ?hm⟩); (case hs => walk_at "tr"); (case' hm => skip)
  | (with_reducible show rIxL _ _ _ _ _); (refine' g_ixL ?hs ?ha ?hm); (case hs => walk_at "tr"); (case ha => rfl); (case' hm => skip)
  | (with_reducible show rIxT _ _ _ _ _); (refine' g_ixT ?hs ?ha ?hm); (case hs => walk_at "tr"); (case ha => rfl); (case' hm => skip)
  | (with_reducible show rGetL _ _ _ _ _); (refine' g_getL ?hs ?h0 ?ha ?hm); (case hs => walk_at "tr"); (case h0 => decide); (case ha => rfl); (case' hm => skip)
  | (with_reducible refine g_newL ?hz ?_); (case hz => exact small_sz (Nat.le_of_ble_eq_true rfl))
  | (with_reducible refine g_newT ?hz ?_); (case hz => exact small_sz (Nat.le_of_ble_eq_true rfl))
  | (with_reducible refine g_I ?hc ?_); (case hc => first
      | exact ⟨by omega, by omega⟩ | exact Or.inl ⟨by omega, by omega⟩ | exact Or.inr ⟨by omega, by omega⟩ | ((with_reducible show (0 : Int) < _); omega) | exact ⟨by omega, by omega, by omega⟩ | decide))
local macro_rules | `(tactic| walk_at "g") => `(tactic| repeat (walk_at "g1"))

structure Txt (K : PySem.W.Frag) (mg : Str → Option Value) : Prop where
  z_all : mg "all" = none
  z_bool : mg "bool" = none
  z_enumerate : mg "enumerate" = none
  z_int : mg "int" = none
  z_isinstance : mg "isinstance" = none
  z_len : mg "len" = none
  z_max : mg "max" = none
  z_min : mg "min" = none
  z_range : mg "range" = none
  z_str : mg "str" = none
  z_tuple : mg "tuple" = none
  g_ALL_DEEDS : ∃ a b0 b1 b2, mg "ALL_DEEDS" = some (.ref a) ∧ ∀ H, SqT K H a [.ref b0, .ref b1, .ref b2] ∧ SqT K H b0 [V.str "look"] ∧ SqT K H b1 [V.str "set"] ∧ SqT K H b2 [V.str "look", V.str "set"]
  g_DEEDS : ∃ u, mg "DEEDS" = some u ∧ RelV (V.int 2) u
  g_GIVER : ∃ u, mg "GIVER" = some u ∧ RelV (V.int 3) u
  g_HOLDER : ∃ u, mg "HOLDER" = some u ∧ RelV (V.int 4) u
  g_LAST_MOMENT : ∃ u, mg "LAST_MOMENT" = some u ∧ RelV (V.int 1000000) u
  g_LONGEST_NAME : ∃ u, mg "LONGEST_NAME" = some u ∧ RelV (V.int 8) u
  g_MOST_PASSES : ∃ u, mg "MOST_PASSES" = some u ∧ RelV (V.int 6) u
  g_PASSES : ∃ u, mg "PASSES" = some u ∧ RelV (V.int 7) u
  g_ROOM : ∃ u, mg "ROOM" = some u ∧ RelV (V.int 1) u
  g_SINCE : ∃ u, mg "SINCE" = some u ∧ RelV (V.int 5) u
  g_UNTIL : ∃ u, mg "UNTIL" = some u ∧ RelV (V.int 6) u
section
variable {P : Program} {w : World} {K : PySem.W.Frag} {mg : Str → Option Value} {base : Heap}
/-! ### what the words are asked -/
theorem g_isk {H : Hp} {Q : VK} {v : V} {T U : String} {b : Bool} (h : Kd K H v T) (e : PySem.W.kitOne K (.type T) (.type U) = some b) (q : Q (.bl b) H) : rIsi K [v, .ty U] H Q := ⟨v, .ty U, .type T, .type U, b, rfl, .ty _, h.2, e, q⟩
def spWhole (K : PySem.W.Frag) : Sp := fun vs H Q _ => ∃ v T, vs = [v] ∧ Kd K H v T ∧ Q (.bl (T == "int")) H
theorem ok_whole (T : Txt K mg) (A : At K mg "is_whole" s_is_whole ["thing"]) : Cal P w K mg base 1 "is_whole" (spWhole K) := by
  refine A.of fun f fd F => fn_ok F sc_is_whole (fun vs H Q E h => ?_) (fun cdv A outer s H vs Q E hr h => ?_)
  · obtain ⟨v, T, rfl, _⟩ := h
    rfl
  · obtain ⟨v, U, rfl, hk, k⟩ := h
    refine ⟨_, [some (v)], rfl, (pss_one (ps_ret (pe_and (pe_callB call_isi (by rfl) T.z_isinstance (by decide +kernel) (pa_cons (pv 0) (pa_cons (pe_bltn (v := .ty "int") (by rfl) T.z_int (by decide +kernel) rfl) pa_nil))) (pe_one (pe_not (pe_callB call_isi (by rfl) T.z_isinstance (by decide +kernel) (pa_cons (pv 0) (pa_cons (pe_bltn (v := .ty "bool") (by rfl) T.z_bool (by decide +kernel) rfl) pa_nil)))))))), ?_⟩
    try dsimp only [cxOf]
    walk_at "g"
    refine g_isk hk (kit_int hk.1) ⟨_, rfl, ?_⟩
    cases hi : (U == "int" || U == "bool") with
    | false =>
      simp only [Bool.or_eq_false_iff] at hi
      rw [hi.1] at k
      exact ite_ff k
    | true =>
      refine ite_tt ?_
      walk_at "g"
      refine g_isk hk (kit_bool hk.1) ?_
      walk_at "g"
      have e : (!(U == "bool")) = (U == "int") := by
        rcases kind_cases hk.1 with rfl | rfl | rfl | rfl | rfl | rfl | rfl <;> first | rfl | exact absurd hi (by decide)
      show Q (.bl (!(U == "bool"))) H
      rw [e]
      exact k
def spBetween (K : PySem.W.Frag) : Sp := fun vs H Q _ => ∃ v lo hi, vs = [v, .int lo, .int hi] ∧ ((∃ i, v = .int i ∧ Q (.bl (decide (lo ≤ i) && decide (i ≤ hi))) H) ∨ ∃ T, Kd K H v T ∧ (T == "int") = false ∧ Q (.bl false) H)
theorem ok_between (T : Txt K mg) (c_is_whole : Cal P w K mg base 1 "is_whole" (spWhole K)) (A : At K mg "is_between" s_is_between ["thing", "least", "most"]) : Cal P w K mg base 2 "is_between" (spBetween K) := by
  refine A.of fun f fd F => fn_ok F sc_is_between (fun vs H Q E h => ?_) (fun cdv A outer s H vs Q E hr h => ?_)
  · obtain ⟨v, lo, hi, rfl, _⟩ := h
    rfl
  · obtain ⟨v, lo, hi, rfl, k⟩ := h
    refine ⟨_, [some (v), some (.int lo), some (.int hi)], rfl, (pss_one (ps_ret (pe_and (pe_c c_is_whole hr (by decide) rfl (pa_cons (pv 0) pa_nil)) (pe_one (pe_chain op_le op_le (pv 1) (pv 0) (pv 2)))))), ?_⟩
    try dsimp only [cxOf]
    walk_at "g"
    rcases k with ⟨i, rfl, k⟩ | ⟨U, hk, hu, k⟩
    · refine ⟨_, _, rfl, kd_int, ⟨_, rfl, ite_tt ?_⟩⟩
      refine g_chain ?_
      walk_at "g"
      cases h1 : decide (lo ≤ i) with
      | false =>
        rw [h1] at k
        exact ite_ff k
      | true =>
        rw [h1] at k
        refine ite_tt ?_
        walk_at "g"
        exact k
    · refine ⟨_, _, rfl, hk, ⟨_, rfl, ?_⟩⟩
      rw [hu]
      exact ite_ff k
def spMoment (K : PySem.W.Frag) : Sp := fun vs H Q _ => ∃ v, vs = [v] ∧ ((∃ i, v = .int i ∧ Q (.bl (decide (0 ≤ i) && decide (i ≤ 1000000))) H) ∨ ∃ T, Kd K H v T ∧ (T == "int") = false ∧ Q (.bl false) H)
theorem ok_moment (T : Txt K mg) (c_is_between : Cal P w K mg base 2 "is_between" (spBetween K)) (A : At K mg "is_moment" s_is_moment ["thing"]) : Cal P w K mg base 3 "is_moment" (spMoment K) := by
  refine A.of fun f fd F => fn_ok F sc_is_moment (fun vs H Q E h => ?_) (fun cdv A outer s H vs Q E hr h => ?_)
  · obtain ⟨v, rfl, _⟩ := h
    rfl
  · obtain ⟨v, rfl, k⟩ := h
    refine ⟨_, [some (v)], rfl, (pss_one (ps_ret (pe_c c_is_between hr (by decide) rfl (pa_cons (pv 0) (pa_cons pe_int (pa_cons (C8.pe_gc rfl T.g_LAST_MOMENT) pa_nil)))))), ?_⟩
    try dsimp only [cxOf]
    walk_at "g"
    exact ⟨v, _, _, rfl, k⟩
/-! names -/
def nmB (a : Str) : Bool := decide (1 ≤ a.length) && decide (a.length ≤ 8) && a.cps.toList.all (btw "a" "z")
def spName (K : PySem.W.Frag) (Pn : Addr) : Sp := fun vs H Q _ => ∃ v, vs = [v] ∧ H Pn = some (TabO Pn) ∧ ((∃ a : Str, v = .str a ∧ a.length ≤ sizeLine ∧ Q (.bl (nmB a)) H) ∨ ∃ T, Kd K H v T ∧ (T == "str") = false ∧ Q (.bl false) H)
theorem ok_isname {c Pn : Addr} (T : Txt K mg) (tb_is_name : GxR.TabB base mg c Pn) (A : AtC K mg "is_name" s_is_name ["thing"] c) : Cal P w K mg base 1 "is_name" (spName K Pn) := by
  refine A.of fun f fd F hc => fn_okC F hc sc_is_name (fun vs H Q E h => ?_) (fun A outer s H vs Q E hr h => ?_)
  · obtain ⟨v, rfl, _⟩ := h
    rfl
  · obtain ⟨v, rfl, hP, k⟩ := h
    refine ⟨_, [some (v)], rfl, (pss_cons (ps_if (PW.pt (pw_or (pt_not (pt_val (pe_callB call_isi (by rfl) T.z_isinstance (by decide +kernel) (pa_cons (pv 0) (pa_cons (pe_bltn (v := .ty "str") (by rfl) T.z_str (by decide +kernel) rfl) pa_nil))))) (pw_or1 (pt_not (pt_chain op_le op_le pe_int (pe_callB call_len_str (by rfl) T.z_len (by decide +kernel) (pa_cons (pv 0) pa_nil)) (C8.pe_gc rfl T.g_LONGEST_NAME))))))
      (pss_one (ps_ret pe_bl))
      pss_nil)
      (pss_one (ps_ret (pe_allG tb_is_name hr rfl T.z_all rfl (genS0 (by decide +kernel)) (pv 0) (fun _ => rfl))))), ?_⟩
    try dsimp only [cxOf]
    walk_at "g"
    rcases k with ⟨a, rfl, hz, k⟩ | ⟨U, hk, hu, k⟩
    · refine g_isk kd_str (kit_str (by decide)) ?_
      walk_at "g"
      rw [if_neg (by decide)]
      refine g_chain ?_
      walk_at "g"
      refine ⟨a, rfl, hz, ?_⟩
      walk_at "g"
      have e1 : decide ((1 : Int) ≤ a.length) = decide (1 ≤ a.length) := by
        by_cases z : 1 ≤ a.length
        · rw [decide_eq_true z, decide_eq_true (by omega)]
        · rw [decide_eq_false z, decide_eq_false (by omega)]
      have e2 : decide ((a.length : Int) ≤ 8) = decide (a.length ≤ 8) := by
        by_cases z : a.length ≤ 8
        · rw [decide_eq_true z, decide_eq_true (by omega)]
        · rw [decide_eq_false z, decide_eq_false (by omega)]
      cases h1 : decide ((1 : Int) ≤ a.length) with
      | false =>
        refine ite_ff ⟨_, rfl, ?_⟩
        refine ite_tt ?_
        walk_at "g"
        rw [h1] at e1
        unfold nmB at k
        rw [← e1] at k
        exact k
      | true =>
        rw [h1] at e1
        refine ite_tt ?_
        walk_at "g"
        cases h2 : decide ((a.length : Int) ≤ 8) with
        | false =>
          refine ite_tt ?_
          walk_at "g"
          rw [h2] at e2
          unfold nmB at k
          rw [← e1, ← e2] at k
          exact k
        | true =>
          refine ite_ff ?_
          walk_at "g"
          refine g_allG ?_
          walk_at "g"
          refine ⟨hP, _, _, ok_signs rfl (by decide +kernel) hP, ?_⟩
          rw [h2] at e2
          rw [GxR.all_signs]
          unfold nmB at k
          rw [← e1, ← e2] at k
          exact k
    · refine g_isk hk (kit_str hk.1) ?_
      rw [hu]
      walk_at "g"
      exact k

/-- a drawn leave -/
structure LeafD where
  number : Int
  room : Str
  deeds : List Str
  giver : Str
  holder : Str
  since : Int
  til : Int
  passes : Int
  above : Option Int
def aboveV : Option Int → V
  | none => .non
  | some a => .int a
def dLook : Str := "look"
def dSet : Str := "set"
def LeafD.vs (L : LeafD) (d : Addr) : List V := [.int L.number, .str L.room, .ref d, .str L.giver, .str L.holder, .int L.since, .int L.til, .int L.passes, aboveV L.above]
structure LeafD.Ok (L : LeafD) : Prop where
  n0 : 0 ≤ L.number
  n1 : L.number ≤ 999999999
  rm : IsNm L.room
  ds : L.deeds = [dLook] ∨ L.deeds = [dSet] ∨ L.deeds = [dLook, dSet]
  gv : IsNm L.giver
  hd : IsNm L.holder
  ne : L.giver ≠ L.holder
  s0 : 0 ≤ L.since
  su : L.since < L.til
  u1 : L.til ≤ 1000000
  p0 : 0 ≤ L.passes
  p1 : L.passes ≤ 6
  ab : ∀ a, L.above = some a → 0 ≤ a ∧ a < L.number
def LeafAt (H : Hp) (T : Addr) (L : LeafD) : Prop := ∃ d, H T = some (.tup (L.vs d)) ∧ H d = some (.tup (L.deeds.map V.str))

/-! a leave that stands -/
theorem lt1 (a b : Nat) : decide ([a] < [b]) = decide (a < b) := by
  have : ([a] < [b]) ↔ a < b := by
    constructor
    · intro h
      cases h with
      | rel h => exact h
      | cons h => cases h
    · intro h
      exact .rel h
  simp only [this]
theorem nm_B {a : Str} (h : IsNm a) : nmB a = true := by
  have hl := h.len
  have h2 := _root_.id h
  unfold IsNm nmL at h2
  simp only [Bool.and_eq_true, decide_eq_true_eq, List.all_eq_true] at h2
  unfold nmB
  simp only [Bool.and_eq_true, decide_eq_true_eq, List.all_eq_true]
  refine ⟨hl, fun c hc => ?_⟩
  obtain ⟨h3, h4⟩ := h2.2 c hc
  have ea : ("a" : Str).cps.toList = [97] := by decide +kernel
  have ez : ("z" : Str).cps.toList = [122] := by decide +kernel
  unfold btw
  rw [ea, ez, lt1, lt1, decide_eq_false (by omega), decide_eq_false (by omega)] <;> rfl
def spDeedsOk (K : PySem.W.Frag) (Pd : Addr) : Sp := fun vs H Q _ => ∃ a ws, vs = [.ref a] ∧ H Pd = some (TabO Pd) ∧ H a = some (.tup (ws.map V.str)) ∧ (ws = [dLook] ∨ ws = [dSet] ∨ ws = [dLook, dSet]) ∧ Q (.bl true) H
theorem ok_isdeeds {c Pd : Addr} (T : Txt K mg) (tb_is_deeds : GxR.TabB base mg c Pd) (A : AtC K mg "is_deeds" s_is_deeds ["thing"] c) : Cal P w K mg base 1 "is_deeds" (spDeedsOk K Pd) := by
  obtain ⟨pa, b0, b1, b2, q_ALL_DEEDS, hAll⟩ := T.g_ALL_DEEDS
  refine A.of fun f fd F hc => fn_okC F hc sc_is_deeds (fun vs H Q E h => ?_) (fun A outer s H vs Q E hr h => ?_)
  · obtain ⟨a, ws, rfl, _⟩ := h
    rfl
  · obtain ⟨a, ws, rfl, hP, ha, hw, k⟩ := h
    refine ⟨_, [some (.ref a)], rfl, (pss_cons (ps_if (PW.pt (pw_or (pt_not (pt_val (pe_callB call_isi (by rfl) T.z_isinstance (by decide +kernel) (pa_cons (pv 0) (pa_cons (pe_bltn (v := .ty "tuple") (by rfl) T.z_tuple (by decide +kernel) rfl) pa_nil))))) (pw_or1 (pt_not (pt_val (pe_allG tb_is_deeds hr rfl T.z_all rfl (genS0 (by decide +kernel)) (pv 0) (fun _ => rfl)))))))
      (pss_one (ps_ret pe_bl))
      pss_nil)
      (pss_one (ps_ret (pe_cmpR (op_inDT hr.u65) (pv 0) (pe_glob (v := .ref _) rfl q_ALL_DEEDS rfl) (by rfl))))), ?_⟩
    try dsimp only [cxOf]
    walk_at "g"
    refine g_isk (kd_tup ha) (kit_tuple (by decide)) ?_
    walk_at "g"
    rw [if_neg (by decide)]
    walk_at "g"
    refine g_allG ?_
    walk_at "g"
    refine ⟨hP, _, _, ok_isiS (ws := ws) rfl (by decide +kernel) (by decide +kernel) T.z_isinstance (by decide +kernel) T.z_str hP (SqT.of ha), ?_⟩
    have e : (List.range ws.length).all (fun _ => true) = true := List.all_eq_true.mpr fun _ _ => rfl
    rw [e]
    walk_at "g"
    rw [if_neg (by decide)]
    walk_at "g"
    obtain ⟨w0, w1, w2, w3⟩ := hAll H
    have dAll : Dp K H (.ref pa) (.tuple [.tuple [.str dLook], .tuple [.str dSet], .tuple [.str dLook, .str dSet]]) := .tup w0 (.cons (.tup w1 (.cons (.str _) .nil)) (.cons (.tup w2 (.cons (.str _) .nil)) (.cons (.tup w3 (.cons (.str _) (.cons (.str _) .nil))) .nil)))
    rcases hw with rfl | rfl | rfl
    · refine ⟨_, _, .tup (SqT.of ha) (.cons (.str _) .nil), dAll, by decide +kernel, by decide +kernel, ?_⟩
      exact k
    · refine ⟨_, _, .tup (SqT.of ha) (.cons (.str _) .nil), dAll, by decide +kernel, by decide +kernel, ?_⟩
      exact k
    · refine ⟨_, _, .tup (SqT.of ha) (.cons (.str _) (.cons (.str _) .nil)), dAll, by decide +kernel, by decide +kernel, ?_⟩
      exact k
theorem g_nmOk {H : Hp} {Q : VK} {E : XK} {Pn : Addr} {a : Str} (hP : H Pn = some (TabO Pn)) (h : IsNm a) (q : Q (.bl true) H) : spName K Pn [.str a] H Q E := ⟨_, rfl, hP, .inl ⟨a, rfl, Nat.le_trans h.len.2 (by decide), by rw [nm_B h]; exact q⟩⟩
theorem g_btOk {H : Hp} {Q : VK} {E : XK} {i lo hi : Int} (h0 : lo ≤ i) (h1 : i ≤ hi) (q : Q (.bl true) H) : spBetween K [.int i, .int lo, .int hi] H Q E := ⟨_, _, _, rfl, .inl ⟨i, rfl, by rw [decide_eq_true h0, decide_eq_true h1]; exact q⟩⟩
theorem g_moOk {H : Hp} {Q : VK} {E : XK} {i : Int} (h0 : 0 ≤ i) (h1 : i ≤ 1000000) (q : Q (.bl true) H) : spMoment K [.int i] H Q E := ⟨_, rfl, .inl ⟨i, rfl, by rw [decide_eq_true h0, decide_eq_true h1]; exact q⟩⟩
/-- two right moments, the first one sooner -/
def spSpan : Sp := fun vs H Q _ => ∃ a b : Int, vs = [.int a, .int b] ∧ 0 ≤ a ∧ a < b ∧ b ≤ 1000000 ∧ Q (.bl true) H
theorem ok_span (T : Txt K mg) (c_is_moment : Cal P w K mg base 3 "is_moment" (spMoment K)) (A : At K mg "is_span" s_is_span ["since", "until"]) : Cal P w K mg base 4 "is_span" spSpan := by
  refine A.of fun f fd F => fn_ok F sc_is_span (fun vs H Q E h => ?_) (fun cdv A outer s H vs Q E hr h => ?_)
  · obtain ⟨a, b, rfl, _⟩ := h
    rfl
  · obtain ⟨a, b, rfl, h0, h1, h2, k⟩ := h
    refine ⟨_, [some (.int a), some (.int b)], rfl, (pss_one (ps_ret (pe_and (pe_c c_is_moment hr (by decide) rfl (pa_cons (pv 0) pa_nil)) (pe_and (pe_c c_is_moment hr (by decide) rfl (pa_cons (pv 1) pa_nil)) (pe_one (pe_cmpR op_lt (pv 0) (pv 1) (nomark _))))))), ?_⟩
    try dsimp only [cxOf]
    walk_at "g"
    refine g_moOk h0 (by omega) ⟨_, rfl, ?_⟩
    refine ite_tt ?_
    walk_at "g"
    refine g_moOk (by omega) h2 ⟨_, rfl, ?_⟩
    refine ite_tt ?_
    walk_at "g"
    rw [decide_eq_true h1]
    exact k
def spLeave (Pn Pd : Addr) : Sp := fun vs H Q _ => ∃ (t : Addr) (L : LeafD), vs = [.ref t] ∧ H Pn = some (TabO Pn) ∧ H Pd = some (TabO Pd) ∧ LeafAt H t L ∧ L.Ok ∧ Q (.bl true) H
theorem ok_leave {Pn Pd : Addr} (T : Txt K mg) (c_is_whole : Cal P w K mg base 1 "is_whole" (spWhole K)) (c_is_between : Cal P w K mg base 2 "is_between" (spBetween K)) (c_is_span : Cal P w K mg base 4 "is_span" spSpan) (c_is_name : Cal P w K mg base 1 "is_name" (spName K Pn))
    (c_is_deeds : Cal P w K mg base 1 "is_deeds" (spDeedsOk K Pd)) (A : At K mg "is_leave" s_is_leave ["thing"]) : Cal P w K mg base 5 "is_leave" (spLeave Pn Pd) := by
  refine A.of fun f fd F => fn_ok F sc_is_leave (fun vs H Q E h => ?_) (fun cdv A outer s H vs Q E hr h => ?_)
  · obtain ⟨t, L, rfl, _⟩ := h
    rfl
  · obtain ⟨t, L, rfl, hn, hd, ⟨d, ht, hD⟩, hL, k⟩ := h
    refine ⟨_, [some (.ref t), none, none, none, none, none, none, none, none, none], rfl, (pss_cons (ps_if (PW.pt (pw_or (pt_not (pt_val (pe_callB call_isi (by rfl) T.z_isinstance (by decide +kernel) (pa_cons (pv 0) (pa_cons (pe_bltn (v := .ty "tuple") (by rfl) T.z_tuple (by decide +kernel) rfl) pa_nil))))) (pw_or1 (pt_cmpR op_ne (pe_callB call_len_seq (by rfl) T.z_len (by decide +kernel) (pa_cons (pv 0) pa_nil)) pe_int (nomark _)))))
      (pss_one (ps_ret pe_bl))
      pss_nil)
      (pss_cons (ps_asg (pv 0) (pg_tup rfl (pgs_cons (pg_name (i := 1) sc_is_leave.nd rfl (Or.inl rfl)) (pgs_cons (pg_name (i := 2) sc_is_leave.nd rfl (Or.inl rfl)) (pgs_cons (pg_name (i := 3) sc_is_leave.nd rfl (Or.inl rfl)) (pgs_cons (pg_name (i := 4) sc_is_leave.nd rfl (Or.inl rfl)) (pgs_cons (pg_name (i := 5) sc_is_leave.nd rfl (Or.inl rfl)) (pgs_cons (pg_name (i := 6) sc_is_leave.nd rfl (Or.inl rfl)) (pgs_cons (pg_name (i := 7) sc_is_leave.nd rfl (Or.inl rfl)) (pgs_cons (pg_name (i := 8) sc_is_leave.nd rfl (Or.inl rfl)) (pgs_cons (pg_name (i := 9) sc_is_leave.nd rfl (Or.inl rfl)) pgs_nil)))))))))))
      (pss_cons (ps_if (PW.pt (pw_or (pt_not (pt_val (pe_c c_is_whole hr (by decide) rfl (pa_cons (pv 1) pa_nil)))) (pw_or1 (pt_cmpR op_lt (pv 1) pe_int (nomark _)))))
      (pss_one (ps_ret pe_bl))
      pss_nil)
      (pss_cons (ps_if (PW.pt (pw_or (pt_not (pt_val (pe_c c_is_name hr (by decide) rfl (pa_cons (pv 2) pa_nil)))) (pw_or1 (pt_not (pt_val (pe_c c_is_deeds hr (by decide) rfl (pa_cons (pv 3) pa_nil)))))))
      (pss_one (ps_ret pe_bl))
      pss_nil)
      (pss_cons (ps_if (PW.pt (pw_or (pt_not (pt_val (pe_c c_is_name hr (by decide) rfl (pa_cons (pv 4) pa_nil)))) (pw_or (pt_not (pt_val (pe_c c_is_name hr (by decide) rfl (pa_cons (pv 5) pa_nil)))) (pw_or1 (pt_cmpR op_eq (pv 4) (pv 5) (nomark _))))))
      (pss_one (ps_ret pe_bl))
      pss_nil)
      (pss_cons (ps_if (PW.pt (pw_or (pt_not (pt_val (pe_c c_is_span hr (by decide) rfl (pa_cons (pv 6) (pa_cons (pv 7) pa_nil))))) (pw_or1 (pt_not (pt_val (pe_c c_is_between hr (by decide) rfl (pa_cons (pv 8) (pa_cons pe_int (pa_cons (C8.pe_gc rfl T.g_MOST_PASSES) pa_nil)))))))))
      (pss_one (ps_ret pe_bl))
      pss_nil)
      (pss_one (ps_ret (pe_or (pe_cmpR op_isN (pv 9) pe_non (nomark _)) (pe_one (pe_c c_is_between hr (by decide) rfl (pa_cons (pv 9) (pa_cons pe_int (pa_cons (pe_op op_sub (pv 1) pe_int) pa_nil)))))))))))))), ?_⟩
    try dsimp only [cxOf]
    walk_at "g"
    refine g_isk (kd_tup ht) (kit_tuple (by decide)) ?_
    walk_at "g"
    rw [if_neg (by decide)]
    walk_at "g"
    unfold LeafD.vs at ht
    have hs := SqT.of (K := K) ht
    refine ⟨t, _, rfl, .inr hs, ?_⟩
    walk_at "g"
    refine iteF ?_
    walk_at "g"
    refine ⟨_, _, rfl, kd_int, ⟨_, rfl, ?_⟩⟩
    refine ite_ff ?_
    walk_at "g"
    rw [if_neg (by have := hL.n0; simpa using this)]
    walk_at "g"
    refine g_nmOk hn hL.rm ⟨_, rfl, ?_⟩
    refine ite_ff ?_
    walk_at "g"
    refine ⟨d, L.deeds, rfl, hd, hD, hL.ds, ⟨_, rfl, ?_⟩⟩
    rw [if_neg (by decide)]
    walk_at "g"
    refine g_nmOk hn hL.gv ⟨_, rfl, ?_⟩
    refine ite_ff ?_
    walk_at "g"
    refine g_nmOk hn hL.hd ⟨_, rfl, ?_⟩
    refine ite_ff ?_
    walk_at "g"
    rw [if_neg (by have := hL.ne; simpa using this)]
    walk_at "g"
    have hsu := hL.su
    have hu1 := hL.u1
    have hs0 := hL.s0
    refine ⟨_, _, rfl, hs0, hsu, hu1, ⟨_, rfl, ?_⟩⟩
    refine ite_ff ?_
    walk_at "g"
    refine g_btOk hL.p0 hL.p1 ⟨_, rfl, ?_⟩
    refine ite_ff ?_
    walk_at "g"
    cases z : L.above with
    | none =>
      exact k
    | some a =>
      obtain ⟨z0, z1⟩ := hL.ab a z
      refine iteF ?_
      walk_at "g"
      refine g_btOk (hi := L.number - 1) z0 (by omega) ?_
      exact k

/-! lies_within -/
def lwB (L W : LeafD) : Bool := decide (W.room = L.room) && (L.deeds.all (fun d => W.deeds.any (· == d)) && (decide (W.since ≤ L.since) && (decide (L.til ≤ W.til) && (decide (L.passes < W.passes) && decide (W.holder = L.giver)))))
def spWithin (Pw : Addr) : Sp := fun vs H Q _ => ∃ (t u : Addr) (L W : LeafD), vs = [.ref t, .ref u] ∧ H Pw = some (TabO Pw) ∧ LeafAt H t L ∧ LeafAt H u W ∧ Q (.bl (lwB L W)) H
theorem fn_within {c Pw : Addr} (T : Txt K mg) (tb_lies_within : GxR.TabB base mg c Pw) {f : Addr} {fd : FuncData} (F : Fun K "lies_within" "lies_within" s_lies_within f fd) (hc : fd.code = .ref c) : FnOk P w K mg base CX0 1 f fd ["leave", "other"] (spWithin Pw) := by
  refine fn_okC F hc sc_lies_within (fun vs H Q E h => ?_) (fun A outer s H vs Q E hr h => ?_)
  · obtain ⟨t, u, L, W, rfl, _⟩ := h
    rfl
  · obtain ⟨t, u, L, W, rfl, hP, ⟨d, ht, hD⟩, ⟨e, hu, hE⟩, k⟩ := h
    refine ⟨_, [some (.ref t), some (.ref u)], rfl, (pss_one (ps_ret (pe_and (pe_cmpR op_eq (pe_ix ix_tup (pv 1) (C8.pe_gc rfl T.g_ROOM) (fun _ _ => rfl)) (pe_ix ix_tup (pv 0) (C8.pe_gc rfl T.g_ROOM) (fun _ _ => rfl)) (nomark _)) (pe_and (pe_allG tb_lies_within hr rfl T.z_all rfl (genSF (fr := ["other"]) (by decide +kernel) (fun y hy => by obtain rfl := List.mem_singleton.mp hy; exact L2.cell_has (by decide +kernel))) (pe_ix ix_tup (pv 0) (C8.pe_gc rfl T.g_DEEDS) (fun _ _ => rfl)) (fun _ => rfl)) (pe_and (pe_cmpR op_le (pe_ix ix_tup (pv 1) (C8.pe_gc rfl T.g_SINCE) (fun _ _ => rfl)) (pe_ix ix_tup (pv 0) (C8.pe_gc rfl T.g_SINCE) (fun _ _ => rfl)) (nomark _)) (pe_and (pe_cmpR op_ge (pe_ix ix_tup (pv 1) (C8.pe_gc rfl T.g_UNTIL) (fun _ _ => rfl)) (pe_ix ix_tup (pv 0) (C8.pe_gc rfl T.g_UNTIL) (fun _ _ => rfl)) (nomark _)) (pe_and (pe_cmpR op_gt (pe_ix ix_tup (pv 1) (C8.pe_gc rfl T.g_PASSES) (fun _ _ => rfl)) (pe_ix ix_tup (pv 0) (C8.pe_gc rfl T.g_PASSES) (fun _ _ => rfl)) (nomark _)) (pe_one (pe_cmpR op_eq (pe_ix ix_tup (pv 1) (C8.pe_gc rfl T.g_HOLDER) (fun _ _ => rfl)) (pe_ix ix_tup (pv 0) (C8.pe_gc rfl T.g_GIVER) (fun _ _ => rfl)) (nomark _)))))))))), ?_⟩
    try dsimp only [cxOf]
    unfold LeafD.vs at ht hu
    have hs := SqT.of (K := K) ht
    have hw := SqT.of (K := K) hu
    walk_at "g"
    have e0 : decide (V.str W.room = V.str L.room) = decide (W.room = L.room) := by
      by_cases z : W.room = L.room
      · rw [decide_eq_true z, decide_eq_true (by rw [z])]
      · rw [decide_eq_false z, decide_eq_false (fun q => z (by injection q))]
    rw [e0]
    unfold lwB at k
    cases h0 : decide (W.room = L.room) with
    | false =>
      rw [h0] at k
      exact ite_ff k
    | true =>
    rw [h0] at k
    refine ite_tt ?_
    refine g_andV (g_allG ?_)
    walk_at "g"
    obtain ⟨ct, q2, r2⟩ := T.g_DEEDS
    refine ⟨hP, L.deeds.length, _, ok_inSub (i := 1) (j := 2) (C := "DEEDS") (o := "other") (x := "deed") (us := W.deeds) hP rfl (by decide +kernel) (by decide +kernel) ?cl rfl rfl (show (defScope s_lies_within).names.lookup ("other" : Str) = some NameKind.cell by decide +kernel) (by decide +kernel) q2 r2 (by decide) hw rfl (SqT.of hE) (SqT.of hD), ?_⟩
    case cl =>
      intro c e
      have z : ∀ cells : List (Str × Addr), (cloFrom cells [((".0" : Str), NameKind.local), (("deed" : Str), NameKind.local), (("other" : Str), NameKind.free), (("DEEDS" : Str), NameKind.globalImplicit)] []).lookup ("other" : Str) = some ((cells.lookup ("other" : Str)).getD 0) := fun cells => rfl
      refine (z _).trans ?_
      rw [e]
      rfl
    rw [all_ix (fun y => W.deeds.any (· == y)) L.deeds]
    refine ⟨_, rfl, ?_⟩
    cases h1 : L.deeds.all fun d => W.deeds.any (· == d) with
    | false =>
      rw [h1] at k
      exact ite_ff k
    | true =>
    rw [h1] at k
    refine ite_tt ?_
    walk_at "g"
    cases h2 : decide (W.since ≤ L.since) with
    | false =>
      rw [h2] at k
      exact ite_ff k
    | true =>
    rw [h2] at k
    refine ite_tt ?_
    walk_at "g"
    cases h3 : decide (L.til ≤ W.til) with
    | false =>
      rw [h3] at k
      exact ite_ff k
    | true =>
    rw [h3] at k
    refine ite_tt ?_
    walk_at "g"
    cases h4 : decide (L.passes < W.passes) with
    | false =>
      rw [h4] at k
      exact ite_ff k
    | true =>
    rw [h4] at k
    refine ite_tt ?_
    walk_at "g"
    have e1 : decide (V.str W.holder = V.str L.giver) = decide (W.holder = L.giver) := by
      by_cases z : W.holder = L.giver
      · rw [decide_eq_true z, decide_eq_true (by rw [z])]
      · rw [decide_eq_false z, decide_eq_false (fun q => z (by injection q))]
    show Q (.bl (decide (V.str W.holder = V.str L.giver))) H
    rw [e1]
    exact k

def Ur : UP := fun n _ b c => b.natAbs < 2 ^ 200 ∧ 0 ≤ c ∧ c ≤ n
def spLot : Sp := fun vs H Q _ => ∃ (u : Addr) (n : Nat) (m : Int), vs = [.ref u, .int m] ∧ UA Ur u n H ∧ n < 100000 ∧ 0 < m ∧ m ≤ 1000000000 ∧
  ∀ r H2, 0 ≤ r → r < m → UA Ur u (n + 1) H2 → Kp u H H2 → Q (.int r) H2
theorem ok_lot (A : At K mg "_law_lot" s__law_lot ["urn", "many"]) : Cal P w K mg base 1 "_law_lot" spLot := by
  refine A.of fun f fd F => fn_ok F sc__law_lot (fun vs H Q E h => ?_) (fun cdv A outer s H vs Q E hr h => ?_)
  · obtain ⟨u, n, m, rfl, _⟩ := h
    rfl
  · obtain ⟨u, n, m, rfl, ⟨n1, hn1, hu⟩, hn, hm, hm2, k⟩ := h
    refine ⟨_, [some (.ref u), some (.int m), none, none], rfl, pss_open u (Ur n1) (pss_cons (ps_if (pt_cmpR op_gt (pe_ix ix_list (pv 0) pe_int (fun _ _ => rfl)) pe_int (nomark _))
      (pss_cons (ps_set (i := 2) sc__law_lot.nd rfl (Or.inl rfl) (pe_op op_mod (pe_ix ix_list (pv 0) pe_int (fun _ _ => rfl)) (pv 1)))
      (pss_cons (ps_asg (pe_op op_fdiv (pe_ix ix_list (pv 0) pe_int (fun _ _ => rfl)) (pv 1)) (pg_sub (pv 0) pe_int set_list))
      (pss_one (ps_retU (pv 2)))))
      pss_nil)
      (pss_cons (ps_augL (pv 0) pe_int pe_int ip_add)
      (pss_cons (ps_set (i := 3) sc__law_lot.nd rfl (Or.inl rfl) (pe_op op_mod (pe_op op_powW (pe_op op_add (pe_ix ix_list (pv 0) pe_int (fun _ _ => rfl)) (pe_op op_mul pe_int (pe_ix ix_list (pv 0) pe_int (fun _ _ => rfl)))) pe_int) (pe_op op_add (pe_op op_pow pe_int pe_int) pe_int)))
      (pss_cons (ps_set (i := 3) sc__law_lot.nd rfl (Or.inl rfl) (pe_op op_mod (pe_op op_powW (pe_op op_add (pv 3) (pe_op op_mul (pe_op op_mul pe_int (pe_ix ix_list (pv 0) pe_int (fun _ _ => rfl))) (pe_ix ix_list (pv 0) pe_int (fun _ _ => rfl)))) pe_int) (pe_op op_add (pe_op op_pow pe_int pe_int) pe_int)))
      (pss_one (ps_retU (pe_op op_mod (pe_op op_fdiv (pv 3) pe_int) (pv 1)))))))), ?_⟩
    refine ⟨hu, fun a b c H1 hp h1 k1 => ?_⟩
    obtain ⟨hb, hc, hc2⟩ := hp
    walk_at "g"
    have cc : c ≤ 100000 := by omega
    refine ite2 (fun ha => ?_) (fun ha => ?_)
    · walk_at "g"
      refine' g_setL (by assumption) rfl fun H2 h2 k2 => ?_
      walk_at "g"
      exact ⟨u, Ur n1, _, b, c, h2, ⟨hb, hc, by omega⟩, fun H3 h3 k3 => k _ H3 (Int.emod_nonneg _ (by omega)) (Int.emod_lt_of_pos _ hm) ⟨n1, by omega, h3⟩ (k1.trans (k2.trans k3))⟩
    · walk_at "g"
      refine' g_setL (by assumption) rfl fun H2 h2 k2 => ?_
      walk_at "g"
      refine g_I (pow_ok (a := 240) ?_ (by decide) (by decide) (by decide)) ?_
      · have e : (2 : Nat) ^ 200 + 433494437 * 100001 < 2 ^ 240 := by decide
        omega
      walk_at "g"
      refine g_I (pow_ok (a := 140) (lot_bound (by decide) (by decide) (by omega) (by omega)) (by decide) (by decide) (by decide)) ?_
      walk_at "g"
      exact ⟨u, Ur (n1 + 1), a, b, c + 1, h2, ⟨hb, by omega, by omega⟩, fun H3 h3 k3 => k _ H3 (Int.emod_nonneg _ (by omega)) (Int.emod_lt_of_pos _ hm) ⟨n1 + 1, by omega, h3⟩ (k1.trans (k2.trans k3))⟩
def spNamed : Sp := fun vs H Q _ => ∃ (u : Addr) (n : Nat), vs = [.ref u] ∧ UA Ur u n H ∧ n < 90000 ∧
  ∀ x H2, IsNm x → UA Ur u (n + 11) H2 → Kp u H H2 → Q (.str x) H2
theorem ok_named (T : Txt K mg) (c__law_lot : Cal P w K mg base 1 "_law_lot" spLot) (A : At K mg "_law_named" s__law_named ["urn"]) : Cal P w K mg base 2 "_law_named" spNamed := by
  refine A.of fun f fd F => fn_ok F sc__law_named (fun vs H Q E h => ?_) (fun cdv A outer s H vs Q E hr h => ?_)
  · obtain ⟨u, n, rfl, _⟩ := h
    rfl
  · obtain ⟨u, n, rfl, hU, hn, k⟩ := h
    refine ⟨_, [some (.ref u), none, none, none], rfl, (pss_cons (ps_set (i := 1) sc__law_named.nd rfl (Or.inr rfl) pe_str)
      (pss_cons (ps_set (i := 2) sc__law_named.nd rfl (Or.inl rfl) (pe_lst (pa_cons pe_str (pa_cons pe_str (pa_cons pe_str (pa_cons pe_str (pa_cons pe_str (pa_cons pe_str (pa_cons pe_str (pa_cons pe_str (pa_cons pe_str (pa_cons pe_str (pa_cons pe_str (pa_cons pe_str (pa_cons pe_str pa_nil)))))))))))))))
      (pss_cons (ps_if (pt_cmpR op_gt (pe_c c__law_lot hr (by decide) rfl (pa_cons (pv 0) (pa_cons pe_int pa_nil))) pe_int (nomark _))
      (pss_one (ps_ret (pe_ix ix_list (pv 2) (pe_c c__law_lot hr (by decide) rfl (pa_cons (pv 0) (pa_cons pe_int pa_nil))) (fun _ _ => rfl))))
      pss_nil)
      (pss_one (ps_ret (pe_join pe_str (pe_lc (own := [("k", 3)]) (g := gName 3) (tt := tYes) rfl sc__law_named.nd (pi_range1 rfl T.z_range (pa_cons (pe_op op_add pe_int (pe_c c__law_lot hr (by decide) rfl (pa_cons (pv 0) (pa_cons pe_int pa_nil)))) pa_nil)) (blkOk_by (own := [("k", 3)]) (N := ["urn", "letters", "some", "k"]) (sc := defScope s__law_named) (by decide +kernel)) (fun _ _ _ _ _ => (pg_name (i := 3) sc__law_named.nd rfl (Or.inl rfl))) (fun _ _ _ _ _ => pts_nil) (fun _ _ _ _ _ => (pe_ix ix_str (pv 1) (pe_c c__law_lot hr (by decide) rfl (pa_cons (pv 0) (pa_cons pe_int pa_nil))) (fun _ _ => rfl)))))))))), ?_⟩
    walk_at "g"
    intro p H1 np e1 hp
    walk_at "g"
    refine ⟨u, n, 3, rfl, hU.ex e1, by omega, by omega, by omega, fun r H2 r0 r1 U2 k2 => ?_⟩
    walk_at "g"
    refine ite2 (fun ha => ?_) (fun ha => ?_)
    · walk_at "g"
      refine ⟨u, _, 13, rfl, U2, by omega, by omega, by omega, fun r' H3 r0 r1 U3 k3 => ?_⟩
      walk_at "ix"
      intro v hv
      obtain ⟨x, rfl, hx⟩ := nmV_is (all_mem (by decide +kernel) hv)
      exact k x H3 hx (U3.mono (by omega)) ((Kp.of e1).trans (k2.trans k3))
    · walk_at "g"
      refine ⟨u, _, 8, rfl, U2, by omega, by omega, by omega, fun r' H3 r0 r1 U3 k3 => ?_⟩
      walk_at "g"
      intro D nD
      refine lcR (fun i acc H => UA Ur u (n + 2 + i) H ∧ Kp u H3 H ∧ ∃ l : List Nat, acc = l.map (fun c => V.str ⟨#[c]⟩) ∧ ∀ c ∈ l, 97 ≤ c ∧ c ≤ 122) (by omega) nD ⟨U3, Kp.refl _ _, [], rfl, by simp⟩ (fun i acc H o hP => ⟨hP.1.upd (U3.ne nD), hP.2.1.upd nD, hP.2.2⟩) ?hw ?_ ?_
      case hw => exact wipe1
      · intro i acc H4 R hi ha hD hP kR
        obtain ⟨U4, k4, l, rfl, hl⟩ := hP
        walk_at "g"
        refine ⟨u, _, 26, rfl, U4, by omega, by omega, by omega, fun r'' H5 r0 r1 U5 k5 => ?_⟩
        walk_at "ix"
        intro c hc
        refine kR _ H5 (by walk_at "tr") ⟨U5.mono (by omega), k4.trans k5, l ++ [c], by rw [List.map_append] <;> rfl, fun d hd => ?_⟩
        rcases List.mem_append.mp hd with z | z
        · exact hl d z
        · rw [List.mem_singleton.mp z]
          exact letters_ok hc
      · intro H4 acc ha hD hP
        obtain ⟨U4, k4, l, rfl, hl⟩ := hP
        rw [List.length_map] at ha
        refine ⟨_, D, l.map fun c => ⟨#[c]⟩, rfl, rfl, .inl (by rw [ones_V]; exact SqL.of hD), ?_, ?_⟩
        · rw [ones_sum, List.length_map]
          show l.length + l.length * 0 ≤ 16777216
          omega
        · exact k _ H4 (nm_join (ones_tl l) (by rw [List.length_map]; omega) (by rw [List.length_map]; omega) hl) (U4.mono (by omega)) ((Kp.of e1).trans (k2.trans (k3.trans k4)))

def spLeaf : Sp := fun vs H Q _ => ∃ (u : Addr) (n : Nat), vs = [.ref u] ∧ UA Ur u n H ∧ n < 80000 ∧
  ∀ T L H2, L.Ok → LeafAt H2 T L → H T = none → UA Ur u (n + 60) H2 → Kp u H H2 → Q (.ref T) H2
theorem ok_leaf (T : Txt K mg) (c__law_lot : Cal P w K mg base 1 "_law_lot" spLot) (c__law_named : Cal P w K mg base 2 "_law_named" spNamed) (A : At K mg "_law_leaf" s__law_leaf ["urn"]) : Cal P w K mg base 3 "_law_leaf" spLeaf := by
  refine A.of fun f fd F => fn_ok F sc__law_leaf (fun vs H Q E h => ?_) (fun cdv A outer s H vs Q E hr h => ?_)
  · obtain ⟨u, n, rfl, _⟩ := h
    rfl
  · obtain ⟨u, n, rfl, U0, hn, k⟩ := h
    refine ⟨_, [some (.ref u), none, none, none, none, none, none, none], rfl, (pss_cons (ps_set (i := 1) sc__law_leaf.nd rfl (Or.inl rfl) (pe_ix ix_list (pe_lst (pa_cons pe_int (pa_cons pe_int (pa_cons (pe_c c__law_lot hr (by decide) rfl (pa_cons (pv 0) (pa_cons pe_int pa_nil))) (pa_cons pe_int (pa_cons (pe_c c__law_lot hr (by decide) rfl (pa_cons (pv 0) (pa_cons (pe_op op_pow pe_int pe_int) pa_nil))) pa_nil)))))) (pe_c c__law_lot hr (by decide) rfl (pa_cons (pv 0) (pa_cons pe_int pa_nil))) (fun _ _ => rfl)))
      (pss_cut (ps_set (i := 2) sc__law_leaf.nd rfl (Or.inl rfl) (pe_ifExp (pt_cmpR op_gt (pv 1) pe_int (nomark _)) (pe_ix ix_list (pe_lst (pa_cons pe_non (pa_cons (pe_op op_sub (pv 1) pe_int) (pa_cons (pe_c c__law_lot hr (by decide) rfl (pa_cons (pv 0) (pa_cons (pv 1) pa_nil))) pa_nil)))) (pe_c c__law_lot hr (by decide) rfl (pa_cons (pv 0) (pa_cons pe_int pa_nil))) (fun _ _ => rfl)) pe_non))
      (pss_cons (ps_set (i := 3) sc__law_leaf.nd rfl (Or.inl rfl) (pe_c c__law_named hr (by decide) rfl (pa_cons (pv 0) pa_nil)))
      (pss_cons (ps_set (i := 4) sc__law_leaf.nd rfl (Or.inl rfl) (pe_c c__law_named hr (by decide) rfl (pa_cons (pv 0) pa_nil)))
      (pss_cut (ps_if (pt_cmpR op_eq (pv 4) (pv 3) (nomark _))
      (pss_one (ps_set (i := 4) sc__law_leaf.nd rfl (Or.inl rfl) (pe_ix ix_list (pe_lst (pa_cons pe_str (pa_cons pe_str pa_nil))) (pe_callTy call_int1 (by rfl) T.z_int (by decide +kernel) (pa_cons (pe_cmpR op_eq (pv 3) pe_str (nomark _)) pa_nil)) (fun _ _ => rfl))))
      pss_nil)
      (pss_cons (ps_set (i := 5) sc__law_leaf.nd rfl (Or.inl rfl) (pe_ix ix_list (pe_lst (pa_cons pe_int (pa_cons (pe_c c__law_lot hr (by decide) rfl (pa_cons (pv 0) (pa_cons pe_int pa_nil))) (pa_cons (pe_c c__law_lot hr (by decide) rfl (pa_cons (pv 0) (pa_cons pe_int pa_nil))) (pa_cons pe_int (pa_cons (pe_c c__law_lot hr (by decide) rfl (pa_cons (pv 0) (pa_cons (pe_op op_pow pe_int pe_int) pa_nil))) pa_nil)))))) (pe_c c__law_lot hr (by decide) rfl (pa_cons (pv 0) (pa_cons pe_int pa_nil))) (fun _ _ => rfl)))
      (pss_cons (ps_set (i := 6) sc__law_leaf.nd rfl (Or.inl rfl) (pe_ix ix_list (pe_lst (pa_cons (pe_op op_add (pv 5) pe_int) (pa_cons (pe_op op_pow pe_int pe_int) (pa_cons (pe_op op_add (pe_op op_add (pv 5) pe_int) (pe_c c__law_lot hr (by decide) rfl (pa_cons (pv 0) (pa_cons (pe_op op_sub (pe_op op_pow pe_int pe_int) (pv 5)) pa_nil)))) pa_nil)))) (pe_c c__law_lot hr (by decide) rfl (pa_cons (pv 0) (pa_cons pe_int pa_nil))) (fun _ _ => rfl)))
      (pss_cons (ps_set (i := 7) sc__law_leaf.nd rfl (Or.inl rfl) (pe_ix ix_list (pe_lst (pa_cons (pe_tup (pa_cons pe_str pa_nil)) (pa_cons (pe_tup (pa_cons pe_str pa_nil)) (pa_cons (pe_tup (pa_cons pe_str (pa_cons pe_str pa_nil))) pa_nil)))) (pe_c c__law_lot hr (by decide) rfl (pa_cons (pv 0) (pa_cons pe_int pa_nil))) (fun _ _ => rfl)))
      (pss_one (ps_ret (pe_tup (pa_cons (pv 1) (pa_cons (pe_c c__law_named hr (by decide) rfl (pa_cons (pv 0) pa_nil)) (pa_cons (pv 7) (pa_cons (pv 3) (pa_cons (pv 4) (pa_cons (pv 5) (pa_cons (pv 6) (pa_cons (pe_c c__law_lot hr (by decide) rfl (pa_cons (pv 0) (pa_cons pe_int pa_nil))) (pa_cons (pv 2) pa_nil)))))))))))))))))))), ?_⟩
    try dsimp only [cxOf]
    -- number
    walk_at "g"
    refine ⟨u, n, 60, rfl, U0, by omega, by omega, by omega, fun a1 H1 a10 a11 U1 k1 => ?_⟩
    walk_at "g"
    refine ⟨u, _, _, rfl, U1, by omega, by decide, by decide, fun a2 H2 a20 a21 U2 k2 => ?_⟩
    walk_at "g"
    intro l1 H3 n3 e3 h3
    have U3 := U2.ex e3
    walk_at "g"
    refine ⟨u, _, 5, rfl, U3, by omega, by omega, by omega, fun a3 H4 a30 a31 U4 k4 => ?_⟩
    walk_at "ix"
    intro v hv
    obtain ⟨number, rfl, b0, b1⟩ : ∃ k, v = .int k ∧ 0 ≤ k ∧ k ≤ 999999999 := by
      have z : a2 < 1000000000 := a21
      simp only [List.mem_cons, List.not_mem_nil, or_false] at hv
      rcases hv with rfl | rfl | rfl | rfl | rfl <;> exact ⟨_, rfl, by omega, by omega⟩
    clear hv h3
    have K4 : Kp u H H4 := k1.trans (k2.trans ((Kp.of e3).trans k4))
    clear k1 k2 e3 k4 U1 U2 U3
    -- above
    refine ⟨fun σ' H' => ∃ ab : Option Int, (∀ a, ab = some a → 0 ≤ a ∧ a < number) ∧ σ' = [some (.ref u), some (.int number), some (aboveV ab), none, none, none, none, none] ∧ UA Ur u (n + 5) H' ∧ Kp u H H', ?_, ?_⟩
    · walk_at "g"
      refine ite2 (fun hp => ?_) (fun hp => ?_)
      · have hp' : 0 < number := of_decide_eq_true hp
        walk_at "g"
        refine ⟨u, _, _, rfl, U4, by omega, by omega, by omega, fun a5 H5 a50 a51 U5 k5 => ?_⟩
        walk_at "g"
        intro l2 H6 n6 e6 h6
        have U6 := U5.ex e6
        walk_at "g"
        refine ⟨u, _, 3, rfl, U6, by omega, by omega, by omega, fun a7 H7 a70 a71 U7 k7 => ?_⟩
        walk_at "ix"
        intro v hv
        obtain ⟨ab, rfl, hab⟩ : ∃ ab : Option Int, v = aboveV ab ∧ ∀ a, ab = some a → 0 ≤ a ∧ a < number := by
          simp only [List.mem_cons, List.not_mem_nil, or_false] at hv
          rcases hv with rfl | rfl | rfl
          · exact ⟨none, rfl, (fun a z => by cases z)⟩
          · exact ⟨some _, rfl, fun a z => by cases z; omega⟩
          · exact ⟨some _, rfl, fun a z => by cases z; omega⟩
        exact ⟨ab, hab, rfl, U7.mono (by omega), K4.trans (k5.trans ((Kp.of e6).trans k7))⟩
      · walk_at "g"
        exact ⟨none, (fun a z => by cases z), rfl, U4.mono (by omega), K4⟩
    clear K4 U4
    rintro σ' H5 ⟨ab, hab, rfl, U5, K5⟩
    -- giver, holder
    walk_at "g"
    refine ⟨u, _, rfl, U5, by omega, fun giver H6 hgv U6 k6 => ?_⟩
    walk_at "g"
    refine ⟨u, _, rfl, U6, by omega, fun holder0 H7 hhd0 U7 k7 => ?_⟩
    have K7 : Kp u H H7 := K5.trans (k6.trans k7)
    clear K5 k6 k7 U5 U6
    refine ⟨fun σ' H' => ∃ holder : Str, IsNm holder ∧ giver ≠ holder ∧ σ' = [some (.ref u), some (.int number), some (aboveV ab), some (.str giver), some (.str holder), none, none, none] ∧ UA Ur u (n + 27) H' ∧ Kp u H H', ?_, ?_⟩
    · walk_at "g"
      refine ite2 (fun hp => ?_) (fun hp => ?_)
      · have hp' : holder0 = giver := by simpa using hp
        walk_at "g"
        intro l2 H8 n8 e8 h8
        walk_at "g"
        by_cases hb : giver = "bob"
        · rw [if_pos (by simpa using hb)]
          walk_at "g"
          exact ⟨"carl", (by unfold IsNm; decide +kernel), by rw [hb]; decide +kernel, rfl, (U7.ex e8).mono (by omega), K7.trans (Kp.of e8)⟩
        · rw [if_neg (by simpa using hb)]
          walk_at "g"
          exact ⟨"bob", (by unfold IsNm; decide +kernel), hb, rfl, (U7.ex e8).mono (by omega), K7.trans (Kp.of e8)⟩
      · have hp' : ¬ holder0 = giver := by simpa using hp
        walk_at "g"
        exact ⟨holder0, hhd0, fun z => hp' z.symm, rfl, U7.mono (by omega), K7⟩
    clear K7 U7
    rintro σ' H5 ⟨holder, hhd, hne, rfl, U5, K5⟩
    -- since
    walk_at "g"
    refine ⟨u, _, _, rfl, U5, by omega, by omega, by omega, fun a1 H1 a10 a11 U1 k1 => ?_⟩
    walk_at "g"
    refine ⟨u, _, _, rfl, U1, by omega, by omega, by omega, fun a2 H2 a20 a21 U2 k2 => ?_⟩
    walk_at "g"
    refine ⟨u, _, _, rfl, U2, by omega, by decide, by decide, fun a3 H3 a30 a31 U3 k3 => ?_⟩
    walk_at "g"
    intro l1 H4 n4 e4 h4
    have U4 := U3.ex e4
    walk_at "g"
    refine ⟨u, _, 5, rfl, U4, by omega, by omega, by omega, fun a6 H6 a60 a61 U6 k6 => ?_⟩
    walk_at "ix"
    intro v hv
    obtain ⟨since, rfl, s0, s1⟩ : ∃ k, v = .int k ∧ 0 ≤ k ∧ k ≤ 999999 := by
      have z : a3 < 1000000 := a31
      simp only [List.mem_cons, List.not_mem_nil, or_false] at hv
      rcases hv with rfl | rfl | rfl | rfl | rfl <;> exact ⟨_, rfl, by omega, by omega⟩
    have K6 : Kp u H H6 := K5.trans (k1.trans (k2.trans (k3.trans ((Kp.of e4).trans k6))))
    clear hv h4 n4 k1 k2 k3 e4 k6 K5 U1 U2 U3 U4 U5
    -- until
    have e6 : (10 : Int) ^ Int.toNat 6 = 1000000 := by decide
    walk_at "g"
    refine ⟨u, _, _, rfl, U6, by omega, by rw [e6]; omega, by rw [e6]; omega, fun a1 H1 a10 a11 U1 k1 => ?_⟩
    rw [e6] at a11
    walk_at "g"
    intro l1 H4 n4 e4 h4
    have U4 := U1.ex e4
    walk_at "g"
    refine ⟨u, _, 3, rfl, U4, by omega, by omega, by omega, fun a2 H7 a20 a21 U7 k7 => ?_⟩
    walk_at "ix"
    intro v hv
    obtain ⟨til, rfl, t0, t1⟩ : ∃ k, v = .int k ∧ since < k ∧ k ≤ 1000000 := by
      rw [e6] at hv
      simp only [List.mem_cons, List.not_mem_nil, or_false] at hv
      rcases hv with rfl | rfl | rfl <;> exact ⟨_, rfl, by omega, by omega⟩
    have K7 : Kp u H H7 := K6.trans (k1.trans ((Kp.of e4).trans k7))
    clear hv h4 n4 k1 e4 k7 K6 U1 U4 U6
    -- deeds
    walk_at "g"
    intro d1 G1 m1 f1 g1
    walk_at "g"
    intro d2 G2 m2 f2 g2
    walk_at "g"
    intro d3 G3 m3 f3 g3
    walk_at "g"
    intro l1 G4 m4 f4 g4
    have U8 : UA Ur u (n + 27 + 1 + 1 + 1 + 1 + 1 + 1) G4 := ((((U7.ex f1).ex f2).ex f3).ex f4)
    have K8 : Kp u H G4 := K7.trans (Kp.of (((f1.trans f2).trans f3).trans f4))
    have q1 := f4 _ _ (f3 _ _ (f2 _ _ g1))
    have q2 := f4 _ _ (f3 _ _ g2)
    have q3 := f4 _ _ g3
    clear f1 f2 f3 g1 g2 g3 U7 K7
    walk_at "g"
    refine ⟨u, _, 3, rfl, U8, by omega, by omega, by omega, fun a2 H8 a20 a21 U9 k9 => ?_⟩
    walk_at "ix"
    intro v hv
    obtain ⟨d, ds, rfl, hds, hd⟩ : ∃ (d : Addr) (ds : List Str), v = .ref d ∧ (ds = [dLook] ∨ ds = [dSet] ∨ ds = [dLook, dSet]) ∧ H8 d = some (.tup (ds.map V.str)) := by
      simp only [List.mem_cons, List.not_mem_nil, or_false] at hv
      rcases hv with rfl | rfl | rfl
      · exact ⟨_, [dLook], rfl, .inl rfl, kp_tup k9 U8.ix q1⟩
      · exact ⟨_, [dSet], rfl, .inr (.inl rfl), kp_tup k9 U8.ix q2⟩
      · exact ⟨_, [dLook, dSet], rfl, .inr (.inr rfl), kp_tup k9 U8.ix q3⟩
    have K9 := K8.trans k9
    clear hv q1 q2 q3 K8 k9
    -- the leave
    walk_at "g"
    refine ⟨u, _, rfl, U9, by omega, fun room G5 hrm U10 k10 => ?_⟩
    walk_at "g"
    refine ⟨u, _, 7, rfl, U10, by omega, by omega, by omega, fun passes G6 p0 p1 U11 k11 => ?_⟩
    walk_at "g"
    intro t G7 m7 f7 g7
    have hd7 := f7 _ _ (kp_tup k11 U10.ix (kp_tup k10 U9.ix hd))
    have K7 : Kp u H G7 := K9.trans (k10.trans (k11.trans (Kp.of f7)))
    exact k t ⟨number, room, ds, giver, holder, since, til, passes, ab⟩ G7 ⟨b0, b1, hrm, hds, hgv, hhd, hne, s0, t0, t1, p0, (by show passes ≤ 6; omega), hab⟩ ⟨d, g7, hd7⟩ (U0.nil (K9.trans (k10.trans k11)) U11 m7) ((U11.ex f7).mono (by omega)) K7

end
end K10

namespace K10
open PySem PySem.Spec PyProof.Rows L2 Lk Evl









local macro_rules | `(tactic| walk_at "hx") => `(tactic| first
  | exact UA.ix (by assumption)
  | exact UA.ix (UA.ex' (by assumption) (by assumption))
  | exact UA.ix (UA.ex' (by assumption) (UA.ex' (by assumption) (by assumption)))
  | exact UA.ix (UA.ex' (by assumption) (UA.ex' (by assumption) (UA.ex' (by assumption) (by assumption)))))
local macro_rules | `(tactic| walk_at "tr1") => `(tactic| first
  | ((with_reducible show SqL _ _ _ _); first
    | assumption
    | exact .inl (.inl (by assumption))
    | with_reducible refine' ex_l (by assumption) ?_
    | (with_reducible refine' kp_l (by assumption) ?hx ?_); (case hx => walk_at "hx"))
  | ((with_reducible show SqT _ _ _ _); first
    | assumption
    | exact .inl (.inl (by assumption))
    | with_reducible refine' ex_t (by assumption) ?_
    | (with_reducible refine' kp_t (by assumption) ?hx ?_); (case hx => walk_at "hx"))
  | ((with_reducible show _ = some _); first
    | assumption
    | with_reducible refine' ex_lst (by assumption) ?_
    | (with_reducible refine' kp_lst (by assumption) ?hx ?_); (case hx => walk_at "hx")
    | (with_reducible refine' kp_tup (by assumption) ?hx ?_); (case hx => walk_at "hx")
    | (with_reducible refine' kp_dK (by assumption) ?hx ?_); (case hx => walk_at "hx")))
local macro_rules | `(tactic| walk_at "tr") => `(tactic| (repeat (any_goals (walk_at "tr1"))); done)
local macro_rules | `(tactic| walk_at "ix") => `(tactic| first
  | (with_reducible show rIxL _ _ _ _ _); (refine' g_ixLm ?hs ?h0 ?h1 ?hq); (case hs => walk_at "tr"); (case h0 => omega); (case h1 => (simp only [List.length_cons, List.length_nil]; omega)); (case' hq => skip)
  | (with_reducible show rIxT _ _ _ _ _); (refine' g_ixTm ?hs ?h0 ?h1 ?hq); (case hs => walk_at "tr"); (case h0 => omega); (case h1 => (simp only [List.length_cons, List.length_nil]; omega)); (case' hq => skip)
  | (with_reducible show rIxS _ _ _ _); (refine' g_ixSm ?hs ?h0 ?h1 ?hq); (case hs => decide +kernel); (case h0 => omega); (case h1 => exact Int.lt_of_lt_of_le (by assumption) (by decide +kernel)); (case' hq => skip))
local macro_rules | `(tactic| walk_at "g1") => `(tactic| first
  | (with_reducible show tVar _ _ _ _); refine g_var rfl ?_
  | with_reducible refine g_c ?_
  | (with_reducible refine g_seq ?_); (try dsimp only [List.set_cons_succ, List.set_cons_zero])
  | with_reducible refine g_op ?_
  | with_reducible refine g_un ?_
  | with_reducible refine g_I0 ?_
  | with_reducible refine g_U ?_
  | (with_reducible refine g_Eq ?hs ?_); (case hs => rfl)
  | (with_reducible refine g_Ne ?hs ?_); (case hs => rfl)
  | with_reducible refine g_test ?_
  | with_reducible refine g_B ?_
  | with_reducible refine g_ifS ?_
  | with_reducible refine g_asg ?_
  | with_reducible refine g_asgG ?_
  | with_reducible refine g_ret ?_
  | with_reducible refine g_retU ?_
  | with_reducible refine g_drop ?_
  | with_reducible refine g_next ?_
  | with_reducible refine g_name ?_
  | with_reducible refine g_and ?_
  | with_reducible refine g_or ?_
  | with_reducible refine g_not ?_
  | with_reducible refine g_andV ?_
  | with_reducible refine g_orV ?_
  | with_reducible refine g_notV ?_
  | with_reducible refine g_if ?_
  | with_reducible refine g_nil ?_
  | with_reducible refine g_cons ?_
  | with_reducible refine g_call ?_
  | with_reducible refine g_callKw ?_
  | with_reducible refine g_callS ?_
  | with_reducible refine g_cb ?_
  | with_reducible refine g_tup ?_
  | with_reducible refine g_lst ?_
  | with_reducible refine g_ipI ?_
  | with_reducible refine g_sub ?_
  | with_reducible refine g_augS ?_
  | (with_reducible show tAug _ _ _ _ _ _); refine g_aug rfl ?_
  | with_reducible refine g_M1 ?_
  | with_reducible refine g_M0 ?_
  | with_reducible refine g_yes ?_
  | with_reducible refine g_sl ?_
  | with_reducible refine g_nopart ?_
  | with_reducible refine g_part ?_
  | with_reducible refine g_lc ?_
  | with_reducible refine g_join ?_
  | (with_reducible show gTup _ _ _ (V.ref _) _ _ _); (refine' ⟨_, _, rfl, ?hs, ?hl, ?hm⟩); (case hs => walk_at "tr"); (case hl => rfl); (case' hm => skip)
  | (with_reducible show gCons _ _ _ _ _ _); (refine ⟨_, _, rfl, ?_⟩)
  | (with_reducible show gNil _ _ _ _); (refine ⟨rfl, ?_⟩)
  | (with_reducible show V.non = V.non ∧ _); (refine ⟨rfl, ?_⟩)
  | (with_reducible show rSlT _ _ _ _ _ _); (refine' g_slT ?hs ?hn ?hy ?hm); (case hs => walk_at "tr"); (case hn => first | exact fun z => absurd z.2 (Nat.ne_of_beq_eq_false rfl) | exact fun z => absurd z.1 (Nat.ne_of_beq_eq_false rfl)); (case hy => rfl); (case' hm => skip)
  | (with_reducible show rSlL _ _ _ _ _ _); (refine' g_slL ?hs ?hm); (case hs => walk_at "tr"); (case' hm => skip)
  | with_reducible refine g_js ?_
  | with_reducible refine g_js0 ?_
  | with_reducible refine g_fmt ?_
  | with_reducible refine g_for ?_
  | with_reducible refine g_iR1 ?_
  | with_reducible refine g_iL ?_
  | with_reducible refine g_iT ?_
  | with_reducible refine g_iE ?_
  | with_reducible refine g_iZ ?_
  | (with_reducible show ∃ k, V.bl _ = V.bl k ∧ _); refine ⟨_, rfl, ?_⟩
  | (with_reducible show ∃ k, V.int _ = V.int k ∧ _); refine ⟨_, rfl, ?_⟩
  | (with_reducible show (∃ a, V.str _ = V.str a) ∧ _); refine ⟨⟨_, rfl⟩, ?_⟩
  | (with_reducible show ∃ j : Int, [V.int _] = [V.int j] ∧ -(2 ^ 62) ≤ j ∧ _); (refine ⟨_, rfl, ?h0, ?h1, ?hm⟩); (case h0 => omega); (case h1 => omega); (case' hm => skip)
  | (with_reducible show ∃ i j : Int, [V.int _, V.int _] = [V.int i, V.int j] ∧ _); (refine ⟨_, _, rfl, ?_⟩)
  | (with_reducible show (∃ i : Int, [V.bl _] = [V.int i] ∧ _) ∨ _); (refine .inr ⟨_, rfl, ?_⟩)
  | (with_reducible show (∃ i : Int, [V.int _] = [V.int i] ∧ _) ∨ _); (refine .inl ⟨_, rfl, ?_⟩)
  | (with_reducible show ∃ a, V.ref _ = V.ref a ∧ (∃ xs, SqL _ _ a xs) ∧ _); (refine' ⟨_, rfl, ⟨_, ?hs⟩, ?hm⟩); (case hs => walk_at "tr"); (case' hm => skip)
  | (with_reducible show ∃ a, V.ref _ = V.ref a ∧ (∃ xs, SqT _ _ a xs) ∧ _); (refine' ⟨_, rfl, ⟨_, ?hs⟩, ?hm⟩); (case hs => walk_at "tr"); (case' hm => skip)
  | (with_reducible show ∃ a xs, [V.ref _] = [V.ref a] ∧ SqL _ _ a xs ∧ _); (refine' ⟨_, _, rfl, ?hs, ?hm⟩); (case hs => walk_at "tr"); (case' hm => skip)
  | (with_reducible show rIxL _ _ _ _ _); (refine' g_ixL ?hs ?ha ?hm); (case hs => walk_at "tr"); (case ha => rfl); (case' hm => skip)
  | (with_reducible show rIxT _ _ _ _ _); (refine' g_ixT ?hs ?ha ?hm); (case hs => walk_at "tr"); (case ha => rfl); (case' hm => skip)
  | (with_reducible show rGetL _ _ _ _ _); (refine' g_getL ?hs ?h0 ?ha ?hm); (case hs => walk_at "tr"); (case h0 => decide); (case ha => rfl); (case' hm => skip)
  | (with_reducible refine g_newL ?hz ?_); (case hz => exact small_sz (Nat.le_of_ble_eq_true rfl))
  | (with_reducible refine g_newT ?hz ?_); (case hz => exact small_sz (Nat.le_of_ble_eq_true rfl))
  | (with_reducible refine g_I ?hc ?_); (case hc => first
      | exact ⟨by omega, by omega⟩ | exact Or.inl ⟨by omega, by omega⟩ | exact Or.inr ⟨by omega, by omega⟩ | ((with_reducible show (0 : Int) < _); omega) | exact ⟨by omega, by omega, by omega⟩ | decide))
local macro_rules | `(tactic| walk_at "g") => `(tactic| repeat (walk_at "g1"))

section
variable {P : Program} {w : World} {K : PySem.W.Frag} {mg : Str → Option Value} {base : Heap}
theorem lw_iff (L W : LeafD) : lwB L W = true ↔ W.room = L.room ∧ (L.deeds.all fun d => W.deeds.any (· == d)) = true ∧ W.since ≤ L.since ∧ L.til ≤ W.til ∧ L.passes < W.passes ∧ W.holder = L.giver := by
  unfold lwB
  simp only [Bool.and_eq_true, decide_eq_true_eq]
theorem dp_strs {K : PySem.W.Frag} {H : Hp} : ∀ ws : List Str, DpAll K H (ws.map V.str) (ws.map PyData.str)
  | [] => .nil
  | y :: ws => .cons (.str y) (dp_strs ws)
theorem flat_strs (ws : List Str) : (ws.map V.str).all flatV = true := by
  rw [List.all_map]
  exact List.all_eq_true.mpr fun _ _ => rfl
theorem inV_strs (y : Str) : ∀ ws : List Str, inV (.str y) (ws.map V.str) = ws.any (· == y)
  | [] => rfl
  | z :: ws => by
    have ih := inV_strs y ws
    unfold inV at ih ⊢
    rw [List.map_cons, List.any_cons, List.any_cons, ih] <;> rfl
def dueF (ls ws : List Str) : List Str := ls.filter fun d => !ws.any (· == d)
def Three (ls : List Str) : Prop := ls = [dLook] ∨ ls = [dSet] ∨ ls = [dLook, dSet]
theorem due_dp {ls ws : List Str} (hl : Three ls) (hw : Three ws) : SeqAt.shaped (.list ((dueF ls ws).map PyData.str)) = true ∧ PyData.eqv (.list ((dueF ls ws).map PyData.str)) (.list []) = ls.all fun d => ws.any (· == d) := by
  rcases hl with rfl | rfl | rfl <;> rcases hw with rfl | rfl | rfl <;> exact ⟨by decide +kernel, by decide +kernel⟩

theorem g_slDeeds {H : Hp} {Q : VK} {d : Addr} {ws : List Str} {lo hi : Option Int} (h : H d = some (.tup (ws.map V.str))) (hw : Three ws) (hl : (lo = none ∧ hi = some 1) ∨ (lo = some (-1) ∧ hi = none))
    (q : ∀ m ws' H2, Ex H H2 → H2 m = some (.tup (ws'.map V.str)) → Three ws' → (ws'.all fun y => ws.any (· == y)) = true → Q (.ref m) H2) : rSlA K (.ref d) lo hi H Q := by
  have same : ws.all (fun y => ws.any (· == y)) = true := List.all_eq_true.mpr fun y hy => List.any_eq_true.mpr ⟨y, hy, by simp⟩
  have q0 := q d ws H (Ex.refl H) h hw same
  rcases hw with rfl | rfl | rfl <;> rcases hl with ⟨rfl, rfl⟩ | ⟨rfl, rfl⟩
  · exact ⟨d, _, rfl, SqT.of h, fun _ => q0, fun z => absurd ⟨by decide +kernel, by decide +kernel⟩ z⟩
  · exact ⟨d, _, rfl, SqT.of h, fun _ => q0, fun z => absurd ⟨by decide +kernel, by decide +kernel⟩ z⟩
  · exact ⟨d, _, rfl, SqT.of h, fun _ => q0, fun z => absurd ⟨by decide +kernel, by decide +kernel⟩ z⟩
  · exact ⟨d, _, rfl, SqT.of h, fun _ => q0, fun z => absurd ⟨by decide +kernel, by decide +kernel⟩ z⟩
  · exact ⟨d, _, rfl, SqT.of h, fun _ => q0, fun _ p np => q p [dLook] _ (Ex.new np) upd_same (.inl rfl) (by decide +kernel)⟩
  · exact ⟨d, _, rfl, SqT.of h, fun _ => q0, fun _ p np => q p [dSet] _ (Ex.new np) upd_same (.inr (.inl rfl)) (by decide +kernel)⟩
/-- W stands just below L -/
structure Below (L W : LeafD) : Prop where
  room : W.room = L.room
  deeds : (W.deeds.all fun y => L.deeds.any (· == y)) = true
  giver : W.giver = L.holder
  since : L.since ≤ W.since
  til : W.til ≤ L.til
  passes : W.passes < L.passes
  num : L.number < W.number ∧ W.number ≤ L.number + 3
  above : W.above = some L.number
def spPassed : Sp := fun vs H Q _ => ∃ (u t nm : Addr) (n : Nat) (L : LeafD) (names : List Str), vs = [.ref u, .ref t, .ref nm] ∧ UA Ur u n H ∧ n < 80000 ∧ LeafAt H t L ∧ L.Ok ∧ L.number ≤ 900000000 ∧ 0 < L.passes ∧ H nm = some (.lst (names.map V.str)) ∧ names.Nodup ∧ (∀ x ∈ names, IsNm x) ∧ 2 ≤ names.length ∧ names.length ≤ 100 ∧
  ∀ T W H2, W.Ok → Below L W → LeafAt H2 T W → H T = none → UA Ur u (n + 20) H2 → Kp u H H2 → Q (.ref T) H2
theorem own_names {names : List Str} {x : Str} (hn : names.Nodup) : names.length - 1 ≤ (((names.map V.str).filter fun v => !decide (v = .str x)).map id).length ∧ ∀ v ∈ ((names.map V.str).filter fun v => !decide (v = .str x)).map id, ∃ y ∈ names, v = .str y ∧ y ≠ x := by
  have cnt : ∀ l : List Str, l.Nodup → l.length ≤ (((l.map V.str).filter fun v => !decide (v = .str x))).length + 1 := by
    intro l
    induction l with
    | nil => intro _; exact Nat.zero_le _
    | cons y l ih =>
      intro hn
      obtain ⟨h1, h2⟩ := List.nodup_cons.mp hn
      by_cases e : y = x
      · have all : (l.map V.str).filter (fun v => !decide (v = V.str x)) = l.map V.str := by
          rw [List.filter_eq_self]
          intro v hv
          obtain ⟨z, hz, rfl⟩ := List.mem_map.mp hv
          have : z ≠ x := fun q => h1 (by rw [e, ← q]; exact hz)
          have : V.str z ≠ V.str x := fun q => this (by injection q)
          simp [this]
        rw [List.map_cons, List.filter_cons_of_neg (by simp [e]), all, List.length_map, List.length_cons]
        omega
      · have e2 : V.str y ≠ V.str x := fun q => e (by injection q)
        rw [List.map_cons, List.filter_cons_of_pos (by simp [e2]), List.length_cons, List.length_cons]
        have := ih h2
        omega
  rw [List.map_id]
  refine ⟨?_, fun v hv => ?_⟩
  · have := cnt names hn
    omega
  · obtain ⟨h1, h2⟩ := List.mem_filter.mp hv
    obtain ⟨z, hz, rfl⟩ := List.mem_map.mp h1
    exact ⟨z, hz, rfl, fun q => by rw [q] at h2; simp at h2⟩
theorem ok_passed (T : Txt K mg) (c__law_lot : Cal P w K mg base 1 "_law_lot" spLot) (A : At K mg "_law_passed" s__law_passed ["urn", "leaf", "names"]) : Cal P w K mg base 2 "_law_passed" spPassed := by
  refine A.of fun f fd F => fn_ok F sc__law_passed (fun vs H Q E h => ?_) (fun cdv A outer s H vs Q E hr h => ?_)
  · obtain ⟨u, t, nm, n, L, names, rfl, _⟩ := h
    rfl
  · obtain ⟨u, t, nm, n, L, names, rfl, U0, hn, ⟨d, ht, hD⟩, hL, hn1, hp0, hN, hnd, hnm, hl2, hl1, k⟩ := h
    refine ⟨_, [some (.ref u), some (.ref t), some (.ref nm), none, none, none, none, none, none, none, none, none, none, none, none, none, none, none], rfl, (pss_cons (ps_asg (pe_slice sl_tup (pv 1) po_none (po_some pe_int)) (pg_tup rfl (pgs_cons (pg_name (i := 3) sc__law_passed.nd rfl (Or.inl rfl)) (pgs_cons (pg_name (i := 4) sc__law_passed.nd rfl (Or.inl rfl)) (pgs_cons (pg_name (i := 5) sc__law_passed.nd rfl (Or.inl rfl)) (pgs_cons (pg_name (i := 6) sc__law_passed.nd rfl (Or.inl rfl)) (pgs_cons (pg_name (i := 7) sc__law_passed.nd rfl (Or.inr rfl)) pgs_nil)))))))
      (pss_cons (ps_asg (pe_slice sl_tup (pv 1) (po_some pe_int) po_none) (pg_tup rfl (pgs_cons (pg_name (i := 8) sc__law_passed.nd rfl (Or.inl rfl)) (pgs_cons (pg_name (i := 9) sc__law_passed.nd rfl (Or.inl rfl)) (pgs_cons (pg_name (i := 10) sc__law_passed.nd rfl (Or.inl rfl)) (pgs_cons (pg_name (i := 11) sc__law_passed.nd rfl (Or.inl rfl)) pgs_nil))))))
      (pss_cons (ps_set (i := 12) sc__law_passed.nd rfl (Or.inl rfl) (pe_op op_add (pv 8) (pe_ix ix_list (pe_lst (pa_cons pe_int (pa_cons (pe_c c__law_lot hr (by decide) rfl (pa_cons (pv 0) (pa_cons (pe_op op_sub (pv 9) (pv 8)) pa_nil))) (pa_cons pe_int pa_nil)))) (pe_c c__law_lot hr (by decide) rfl (pa_cons (pv 0) (pa_cons pe_int pa_nil))) (fun _ _ => rfl))))
      (pss_cons (ps_set (i := 13) sc__law_passed.nd rfl (Or.inl rfl) (pe_op op_sub (pv 9) (pe_ix ix_list (pe_lst (pa_cons pe_int (pa_cons pe_int (pa_cons (pe_c c__law_lot hr (by decide) rfl (pa_cons (pv 0) (pa_cons (pe_op op_sub (pv 9) (pv 12)) pa_nil))) pa_nil)))) (pe_c c__law_lot hr (by decide) rfl (pa_cons (pv 0) (pa_cons pe_int pa_nil))) (fun _ _ => rfl))))
      (pss_cons (ps_set (i := 14) sc__law_passed.nd rfl (Or.inl rfl) (pe_ix ix_list (pe_lst (pa_cons (pv 5) (pa_cons (pe_slice sl_tupA (pv 5) po_none (po_some pe_int)) (pa_cons (pe_slice sl_tupA (pv 5) (po_some (pe_un un_neg pe_int)) po_none) pa_nil)))) (pe_c c__law_lot hr (by decide) rfl (pa_cons (pv 0) (pa_cons pe_int pa_nil))) (fun _ _ => rfl)))
      (pss_cons (ps_set (i := 15) sc__law_passed.nd rfl (Or.inl rfl) (pe_op op_sub (pe_op op_sub (pv 10) pe_int) (pe_ix ix_list (pe_lst (pa_cons pe_int (pa_cons pe_int (pa_cons pe_int (pa_cons (pe_c c__law_lot hr (by decide) rfl (pa_cons (pv 0) (pa_cons (pv 10) pa_nil))) pa_nil))))) (pe_c c__law_lot hr (by decide) rfl (pa_cons (pv 0) (pa_cons pe_int pa_nil))) (fun _ _ => rfl))))
      (pss_cons (ps_set (i := 16) sc__law_passed.nd rfl (Or.inl rfl) (pe_ix ix_list (pe_lc (own := [("name", 17)]) (g := gName 17) (tt := _) rfl sc__law_passed.nd (pi_list (pv 2)) (blkOk_by (own := [("name", 17)]) (N := ["urn", "leaf", "names", "number", "room", "deeds", "giver", "holder", "since", "until", "passes", "above", "begin", "end", "may", "left", "own", "name"]) (sc := defScope s__law_passed) (by decide +kernel)) (fun _ _ _ _ _ => (pg_name (i := 17) sc__law_passed.nd rfl (Or.inl rfl))) (fun _ _ _ _ _ => (pts_one (pt_cmpR op_ne (pv 17) (pv 7) (nomark _)))) (fun _ _ _ _ _ => (pv 17))) (pe_c c__law_lot hr (by decide) rfl (pa_cons (pv 0) (pa_cons (pe_op op_sub (pe_callB call_len_seq (by rfl) T.z_len (by decide +kernel) (pa_cons (pv 2) pa_nil)) pe_int) pa_nil))) (fun _ _ => rfl)))
      (pss_one (ps_ret (pe_tup (pa_cons (pe_op op_add (pe_op op_add (pv 3) pe_int) (pe_c c__law_lot hr (by decide) rfl (pa_cons (pv 0) (pa_cons pe_int pa_nil)))) (pa_cons (pv 4) (pa_cons (pv 14) (pa_cons (pv 7) (pa_cons (pv 16) (pa_cons (pv 12) (pa_cons (pv 13) (pa_cons (pv 15) (pa_cons (pv 3) pa_nil))))))))))))))))))), ?_⟩
    try dsimp only [cxOf]
    unfold LeafD.vs at ht
    walk_at "g"
    intro p1 H1 n1 e1 h1
    walk_at "g"
    intro p2 H2 n2 e2 h2
    have U2 := (U0.ex e1).ex e2
    walk_at "g"
    have su := hL.su
    have s0 := hL.s0
    have u1 := hL.u1
    -- begin
    refine ⟨u, _, L.til - L.since, rfl, U2, by omega, by omega, by omega, fun a3 H3 a30 a31 U3 k3 => ?_⟩
    walk_at "g"
    intro l1 H4 n4 e4 h4
    have U4 := U3.ex e4
    walk_at "g"
    refine ⟨u, _, 3, rfl, U4, by omega, by omega, by omega, fun a5 H5 a50 a51 U5 k5 => ?_⟩
    walk_at "ix"
    intro v hv
    obtain ⟨x1, rfl, b0, b1⟩ : ∃ k, v = .int k ∧ 0 ≤ k ∧ k < L.til - L.since := by
      simp only [List.mem_cons, List.not_mem_nil, or_false] at hv
      rcases hv with rfl | rfl | rfl <;> exact ⟨_, rfl, by omega, by omega⟩
    have K5 : Kp u H H5 := (Kp.of (e1.trans e2)).trans (k3.trans ((Kp.of e4).trans k5))
    clear hv h4 k3 k5 e4 U2 U3 U4 e1 e2 h1 h2 n1 n2 n4
    walk_at "g"
    -- end
    refine ⟨u, _, L.til - (L.since + x1), rfl, U5, by omega, by omega, by omega, fun a3 H3 c0 c1 U3 k3 => ?_⟩
    walk_at "g"
    intro l1 H4 n4 e4 h4
    have U4 := U3.ex e4
    walk_at "g"
    refine ⟨u, _, 3, rfl, U4, by omega, by omega, by omega, fun a5 H6 a50 a51 U6 k6 => ?_⟩
    walk_at "ix"
    intro v hv
    obtain ⟨x2, rfl, d0, d1⟩ : ∃ k, v = .int k ∧ 0 ≤ k ∧ k < L.til - (L.since + x1) := by
      simp only [List.mem_cons, List.not_mem_nil, or_false] at hv
      rcases hv with rfl | rfl | rfl <;> exact ⟨_, rfl, by omega, by omega⟩
    have K6 : Kp u H H6 := K5.trans (k3.trans ((Kp.of e4).trans k6))
    clear hv h4 k3 k6 e4 U3 U4 U5 K5 n4
    walk_at "g"
    -- may
    have hd6 : H6 d = some (.tup (L.deeds.map V.str)) := kp_tup K6 U0.ix hD
    refine g_slDeeds hd6 hL.ds (.inl ⟨rfl, rfl⟩) fun m1 w1 H7 e7 h7 t7 s7 => ?_
    walk_at "g"
    refine g_slDeeds (e7 _ _ hd6) hL.ds (.inr ⟨rfl, rfl⟩) fun m2 w2 H8 e8 h8 t8 s8 => ?_
    walk_at "g"
    intro l4 H9 n9 e9 h9
    have U9 := U6.ex ((e7.trans e8).trans e9)
    walk_at "g"
    refine ⟨u, _, 3, rfl, U9, by omega, by omega, by omega, fun a5 H1 a50 a51 U1 k1 => ?_⟩
    have z0 := kp_tup k1 U9.ix (e9 _ _ (e8 _ _ (e7 _ _ hd6)))
    have z1 := kp_tup k1 U9.ix (e9 _ _ (e8 _ _ h7))
    have z2 := kp_tup k1 U9.ix (e9 _ _ h8)
    walk_at "ix"
    intro v hv
    obtain ⟨m, ws, rfl, hm, h3, hsub⟩ : ∃ m ws, v = .ref m ∧ H1 m = some (.tup (ws.map V.str)) ∧ Three ws ∧ (ws.all fun y => L.deeds.any (· == y)) = true := by
      simp only [List.mem_cons, List.not_mem_nil, or_false] at hv
      rcases hv with rfl | rfl | rfl
      · refine ⟨_, _, rfl, z0, hL.ds, List.all_eq_true.mpr fun y hy => List.any_eq_true.mpr ⟨y, hy, by simp⟩⟩
      · exact ⟨_, _, rfl, z1, t7, s7⟩
      · exact ⟨_, _, rfl, z2, t8, s8⟩
    have K1 : Kp u H H1 := K6.trans ((Kp.of ((e7.trans e8).trans e9)).trans k1)
    clear hv h9 n9 z0 z1 z2 h7 h8 t7 s7 t8 s8 e7 e8 e9 k1 U9 U6 K6 hd6
    walk_at "g"
    -- left
    have pb := hL.p1
    refine ⟨u, _, L.passes, rfl, U1, by omega, by omega, by omega, fun a3 H3 f0 f1 U3 k3 => ?_⟩
    walk_at "g"
    intro l1 H4 n4 e4 h4
    have U4 := U3.ex e4
    walk_at "g"
    refine ⟨u, _, 4, rfl, U4, by omega, by omega, by omega, fun a6 H6 a60 a61 U6 k6 => ?_⟩
    walk_at "ix"
    intro v hv
    obtain ⟨x3, rfl, g0, g1⟩ : ∃ k, v = .int k ∧ 0 ≤ k ∧ k < L.passes := by
      simp only [List.mem_cons, List.not_mem_nil, or_false] at hv
      rcases hv with rfl | rfl | rfl | rfl <;> exact ⟨_, rfl, by omega, by omega⟩
    have k36 := k3.trans ((Kp.of e4).trans k6)
    have K6 : Kp u H H6 := K1.trans k36
    have hm6 := kp_tup k36 U1.ix hm
    clear hv h4 n4 k3 k6 e4 U3 U4 K1 k36 hm U1
    walk_at "g"
    -- own
    have hN6 := kp_lst K6 U0.ix hN
    intro Dl nD
    refine lcL (xs := names.map V.str) (j := 17) (fun v => !decide (v = .str L.holder)) id ?_ nD (SqL.of hN6) ?_ ?_ ?_
    · rw [List.length_map]
      omega
    · intro x hx H3 R e3 r
      obtain ⟨y, hy, rfl⟩ := List.mem_map.mp hx
      walk_at "g"
      exact r _ (Ex.refl _)
    · intro x hx H3 R e3 r
      walk_at "g"
      exact r
    · intro H7 e7 h7
      have U7 := U6.ex e7
      have hN7 := e7 _ _ hN6
      walk_at "g"
      refine ⟨nm, _, rfl, .inl (SqL.of hN7), ?_⟩
      walk_at "g"
      obtain ⟨on1, on2⟩ := own_names (x := L.holder) hnd
      refine ⟨u, _, _, rfl, U7, by omega, by rw [List.length_map]; omega, by rw [List.length_map]; omega, fun a8 H8 a80 a81 U8 k8 => ?_⟩
      have h8 := kp_lst k8 U7.ix h7
      rw [List.length_map] at a81
      generalize hfl : ((names.map V.str).filter fun v => !decide (v = .str L.holder)).map id = fl at h8 on1 on2
      refine g_ixLm (SqL.of h8) a80 (by omega) fun v hv => ?_
      obtain ⟨own, ho, rfl, hne⟩ := on2 v hv
      have K8 := (K6.trans (Kp.of e7)).trans k8
      have hm8 := kp_tup k8 U7.ix (e7 _ _ hm6)
      clear hfl h8 hv on1 on2 K6 k8 U7 hm6 hN7 hN6
      dsimp only [List.set_cons_succ, List.set_cons_zero]
      walk_at "g"
      refine ⟨u, _, 3, rfl, U8, by omega, by omega, by omega, fun a9 H9 y0 y1 U9 k9 => ?_⟩
      have hm9 := kp_tup k9 U8.ix hm8
      have K9 := K8.trans k9
      walk_at "g"
      intro W Hz nz ez hz
      have hI := hnm own ho
      exact k W ⟨L.number + 1 + a9, L.room, ws, L.holder, own, L.since + x1, L.til - x2, L.passes - 1 - x3, some L.number⟩ Hz
        ⟨(show 0 ≤ L.number + 1 + a9 by have := hL.n0; omega), (show L.number + 1 + a9 ≤ 999999999 by omega), hL.rm, h3, hL.hd, hI, fun z => hne z.symm, (show 0 ≤ L.since + x1 by omega), (show L.since + x1 < L.til - x2 by omega), (show L.til - x2 ≤ 1000000 by omega), (show 0 ≤ L.passes - 1 - x3 by omega), (show L.passes - 1 - x3 ≤ 6 by omega),
          fun a z => by cases z; exact ⟨hL.n0, (show L.number < L.number + 1 + a9 by omega)⟩⟩
        ⟨rfl, hsub, rfl, (show L.since ≤ L.since + x1 by omega), (show L.til - x2 ≤ L.til by omega), (show L.passes - 1 - x3 < L.passes by omega), ⟨(show L.number < L.number + 1 + a9 by omega), (show L.number + 1 + a9 ≤ L.number + 3 by omega)⟩, rfl⟩
        ⟨m, hz, ez _ _ hm9⟩ (Kp.fresh K9 U0.ix nz U9.ix) ((U9.ex ez).mono (by omega)) (K9.trans (Kp.of ez))

end
end K10

namespace K10
open PySem PySem.Spec PyProof.Rows L2 Lk Evl









local macro_rules | `(tactic| walk_at "hx") => `(tactic| first
  | exact UA.ix (by assumption)
  | exact UA.ix (UA.ex' (by assumption) (by assumption))
  | exact UA.ix (UA.ex' (by assumption) (UA.ex' (by assumption) (by assumption)))
  | exact UA.ix (UA.ex' (by assumption) (UA.ex' (by assumption) (UA.ex' (by assumption) (by assumption)))))
local macro_rules | `(tactic| walk_at "tr1") => `(tactic| first
  | ((with_reducible show SqL _ _ _ _); first
    | assumption
    | exact .inl (.inl (by assumption))
    | with_reducible refine' ex_l (by assumption) ?_
    | (with_reducible refine' kp_l (by assumption) ?hx ?_); (case hx => walk_at "hx"))
  | ((with_reducible show SqT _ _ _ _); first
    | assumption
    | exact .inl (.inl (by assumption))
    | with_reducible refine' ex_t (by assumption) ?_
    | (with_reducible refine' kp_t (by assumption) ?hx ?_); (case hx => walk_at "hx"))
  | ((with_reducible show _ = some _); first
    | assumption
    | with_reducible refine' ex_lst (by assumption) ?_
    | (with_reducible refine' kp_lst (by assumption) ?hx ?_); (case hx => walk_at "hx")
    | (with_reducible refine' kp_tup (by assumption) ?hx ?_); (case hx => walk_at "hx")
    | (with_reducible refine' kp_dK (by assumption) ?hx ?_); (case hx => walk_at "hx")))
local macro_rules | `(tactic| walk_at "tr") => `(tactic| (repeat (any_goals (walk_at "tr1"))); done)
local macro_rules | `(tactic| walk_at "ix") => `(tactic| first
  | (with_reducible show rIxL _ _ _ _ _); (refine' g_ixLm ?hs ?h0 ?h1 ?hq); (case hs => walk_at "tr"); (case h0 => omega); (case h1 => (simp only [List.length_cons, List.length_nil]; omega)); (case' hq => skip)
  | (with_reducible show rIxT _ _ _ _ _); (refine' g_ixTm ?hs ?h0 ?h1 ?hq); (case hs => walk_at "tr"); (case h0 => omega); (case h1 => (simp only [List.length_cons, List.length_nil]; omega)); (case' hq => skip)
  | (with_reducible show rIxS _ _ _ _); (refine' g_ixSm ?hs ?h0 ?h1 ?hq); (case hs => decide +kernel); (case h0 => omega); (case h1 => exact Int.lt_of_lt_of_le (by assumption) (by decide +kernel)); (case' hq => skip))
local macro_rules | `(tactic| walk_at "g1") => `(tactic| first
  | (with_reducible show tVar _ _ _ _); refine g_var rfl ?_
  | with_reducible refine g_c ?_
  | (with_reducible refine g_seq ?_); (try dsimp only [List.set_cons_succ, List.set_cons_zero])
  | with_reducible refine g_op ?_
  | with_reducible refine g_un ?_
  | with_reducible refine g_I0 ?_
  | with_reducible refine g_U ?_
  | (with_reducible refine g_Eq ?hs ?_); (case hs => rfl)
  | (with_reducible refine g_Ne ?hs ?_); (case hs => rfl)
  | with_reducible refine g_test ?_
  | with_reducible refine g_B ?_
  | with_reducible refine g_ifS ?_
  | with_reducible refine g_asg ?_
  | with_reducible refine g_asgG ?_
  | with_reducible refine g_ret ?_
  | with_reducible refine g_retU ?_
  | with_reducible refine g_drop ?_
  | with_reducible refine g_next ?_
  | with_reducible refine g_name ?_
  | with_reducible refine g_and ?_
  | with_reducible refine g_or ?_
  | with_reducible refine g_not ?_
  | with_reducible refine g_andV ?_
  | with_reducible refine g_orV ?_
  | with_reducible refine g_notV ?_
  | with_reducible refine g_if ?_
  | with_reducible refine g_nil ?_
  | with_reducible refine g_cons ?_
  | with_reducible refine g_call ?_
  | with_reducible refine g_callKw ?_
  | with_reducible refine g_callS ?_
  | with_reducible refine g_cb ?_
  | with_reducible refine g_tup ?_
  | with_reducible refine g_lst ?_
  | with_reducible refine g_ipI ?_
  | with_reducible refine g_sub ?_
  | with_reducible refine g_augS ?_
  | (with_reducible show tAug _ _ _ _ _ _); refine g_aug rfl ?_
  | with_reducible refine g_M1 ?_
  | with_reducible refine g_M0 ?_
  | with_reducible refine g_yes ?_
  | with_reducible refine g_sl ?_
  | with_reducible refine g_nopart ?_
  | with_reducible refine g_part ?_
  | with_reducible refine g_lc ?_
  | with_reducible refine g_join ?_
  | (with_reducible show gTup _ _ _ (V.ref _) _ _ _); (refine' ⟨_, _, rfl, ?hs, ?hl, ?hm⟩); (case hs => walk_at "tr"); (case hl => rfl); (case' hm => skip)
  | (with_reducible show gCons _ _ _ _ _ _); (refine ⟨_, _, rfl, ?_⟩)
  | (with_reducible show gNil _ _ _ _); (refine ⟨rfl, ?_⟩)
  | (with_reducible show V.non = V.non ∧ _); (refine ⟨rfl, ?_⟩)
  | (with_reducible show rSlT _ _ _ _ _ _); (refine' g_slT ?hs ?hn ?hy ?hm); (case hs => walk_at "tr"); (case hn => first | exact fun z => absurd z.2 (Nat.ne_of_beq_eq_false rfl) | exact fun z => absurd z.1 (Nat.ne_of_beq_eq_false rfl)); (case hy => rfl); (case' hm => skip)
  | (with_reducible show rSlL _ _ _ _ _ _); (refine' g_slL ?hs ?hm); (case hs => walk_at "tr"); (case' hm => skip)
  | with_reducible refine g_js ?_
  | with_reducible refine g_js0 ?_
  | with_reducible refine g_fmt ?_
  | with_reducible refine g_for ?_
  | with_reducible refine g_iR1 ?_
  | with_reducible refine g_iL ?_
  | with_reducible refine g_iT ?_
  | with_reducible refine g_iE ?_
  | with_reducible refine g_iZ ?_
  | (with_reducible show ∃ k, V.bl _ = V.bl k ∧ _); refine ⟨_, rfl, ?_⟩
  | (with_reducible show ∃ k, V.int _ = V.int k ∧ _); refine ⟨_, rfl, ?_⟩
  | (with_reducible show (∃ a, V.str _ = V.str a) ∧ _); refine ⟨⟨_, rfl⟩, ?_⟩
  | (with_reducible show ∃ j : Int, [V.int _] = [V.int j] ∧ -(2 ^ 62) ≤ j ∧ _); (refine ⟨_, rfl, ?h0, ?h1, ?hm⟩); (case h0 => omega); (case h1 => omega); (case' hm => skip)
  | (with_reducible show ∃ i j : Int, [V.int _, V.int _] = [V.int i, V.int j] ∧ _); (refine ⟨_, _, rfl, ?_⟩)
  | (with_reducible show (∃ i : Int, [V.bl _] = [V.int i] ∧ _) ∨ _); (refine .inr ⟨_, rfl, ?_⟩)
  | (with_reducible show (∃ i : Int, [V.int _] = [V.int i] ∧ _) ∨ _); (refine .inl ⟨_, rfl, ?_⟩)
  | (with_reducible show ∃ a, V.ref _ = V.ref a ∧ (∃ xs, SqL _ _ a xs) ∧ _); (refine' ⟨_, rfl, ⟨_, ?hs⟩, ?hm⟩); (case hs => walk_at "tr"); (case' hm => skip)
  | (with_reducible show ∃ a, V.ref _ = V.ref a ∧ (∃ xs, SqT _ _ a xs) ∧ _); (refine' ⟨_, rfl, ⟨_, ?hs⟩, ?hm⟩); (case hs => walk_at "tr"); (case' hm => skip)
  | (with_reducible show ∃ a xs, [V.ref _] = [V.ref a] ∧ SqL _ _ a xs ∧ _); (refine' ⟨_, _, rfl, ?hs, ?hm⟩); (case hs => walk_at "tr"); (case' hm => skip)
  | (with_reducible show rIxL _ _ _ _ _); (refine' g_ixL ?hs ?ha ?hm); (case hs => walk_at "tr"); (case ha => rfl); (case' hm => skip)
  | (with_reducible show rIxT _ _ _ _ _); (refine' g_ixT ?hs ?ha ?hm); (case hs => walk_at "tr"); (case ha => rfl); (case' hm => skip)
  | (with_reducible show rGetL _ _ _ _ _); (refine' g_getL ?hs ?h0 ?ha ?hm); (case hs => walk_at "tr"); (case h0 => decide); (case ha => rfl); (case' hm => skip)
  | (with_reducible refine g_newL ?hz ?_); (case hz => exact small_sz (Nat.le_of_ble_eq_true rfl))
  | (with_reducible refine g_newT ?hz ?_); (case hz => exact small_sz (Nat.le_of_ble_eq_true rfl))
  | (with_reducible refine g_I ?hc ?_); (case hc => first
      | exact ⟨by omega, by omega⟩ | exact Or.inl ⟨by omega, by omega⟩ | exact Or.inr ⟨by omega, by omega⟩ | ((with_reducible show (0 : Int) < _); omega) | exact ⟨by omega, by omega, by omega⟩ | decide))
local macro_rules | `(tactic| walk_at "g") => `(tactic| repeat (walk_at "g1"))

section
variable {P : Program} {w : World} {K : PySem.W.Frag} {mg : Str → Option Value} {base : Heap}

theorem LeafAt.kp {u t : Addr} {H H' : Hp} {L : LeafD} (h : LeafAt H t L) (k : Kp u H H') (x : IsX u H) : LeafAt H' t L := let ⟨d, a, b⟩ := h; ⟨d, kp_tup k x a, kp_tup k x b⟩
theorem LeafAt.ex {t : Addr} {H H' : Hp} {L : LeafD} (h : LeafAt H t L) (k : Ex H H') : LeafAt H' t L := let ⟨d, a, b⟩ := h; ⟨d, k _ _ a, k _ _ b⟩

/-- a row of leaves, each below the one ahead of it -/
def Chain : List (Addr × LeafD) → Prop
  | [] => True
  | [_] => True
  | a :: b :: r => Below a.2 b.2 ∧ Chain (b :: r)
def RowAt (H : Hp) (p : Addr) (rs : List (Addr × LeafD)) : Prop := H p = some (.lst (rs.map fun x => V.ref x.1)) ∧ (∀ x ∈ rs, LeafAt H x.1 x.2 ∧ x.2.Ok) ∧ Chain rs
theorem chain_snoc : ∀ (l : List (Addr × LeafD)) (a b : Addr × LeafD), Chain (l ++ [a]) → Below a.2 b.2 → Chain (l ++ [a] ++ [b])
  | [], a, b, _, h => ⟨h, trivial⟩
  | [c], a, b, h, hb => ⟨h.1, hb, trivial⟩
  | c :: e :: r, a, b, h, hb => ⟨h.1, chain_snoc (e :: r) a b h.2 hb⟩
theorem LeafAt.updL {t p : Addr} {H : Hp} {L : LeafD} {xs : List V} {o : HO} (h : LeafAt H t L) (hp : H p = some (.lst xs)) : LeafAt (upd H p o) t L := by
  obtain ⟨d, a, b⟩ := h
  have h1 : t ≠ p := fun z => by
    rw [z, hp] at a
    cases a
  have h2 : d ≠ p := fun z => by
    rw [z, hp] at b
    cases b
  exact ⟨d, (upd_ne h1).trans a, (upd_ne h2).trans b⟩
def spRow : Sp := fun vs H Q _ => ∃ (u : Addr), vs = [.ref u] ∧ UA Ur u 0 H ∧
  ∀ p rs H2, RowAt H2 p rs → 1 ≤ rs.length → rs.length ≤ 7 → UA Ur u 300 H2 → Kp u H H2 → Q (.ref p) H2
theorem ok_row (T : Txt K mg) (c__law_lot : Cal P w K mg base 1 "_law_lot" spLot) (c__law_leaf : Cal P w K mg base 3 "_law_leaf" spLeaf) (c__law_passed : Cal P w K mg base 2 "_law_passed" spPassed) (A : At K mg "_law_row" s__law_row ["urn"]) : Cal P w K mg base 4 "_law_row" spRow := by
  refine A.of fun f fd F => fn_ok F sc__law_row (fun vs H Q E h => ?_) (fun cdv A outer s H vs Q E hr h => ?_)
  · obtain ⟨u, rfl, _⟩ := h
    rfl
  · obtain ⟨u, rfl, U0, k⟩ := h
    refine ⟨_, [some (.ref u), none, none, none, none], rfl, (pss_cons (ps_set (i := 1) sc__law_row.nd rfl (Or.inl rfl) (pe_c c__law_leaf hr (by decide) rfl (pa_cons (pv 0) pa_nil)))
      (pss_cons (ps_set (i := 1) sc__law_row.nd rfl (Or.inl rfl) (pe_op op_catT (pe_op op_catT (pe_tup (pa_cons (pe_c c__law_lot hr (by decide) rfl (pa_cons (pv 0) (pa_cons pe_int pa_nil))) pa_nil)) (pe_slice sl_tup (pv 1) (po_some pe_int) (po_some pe_int))) (pe_tup (pa_cons (pe_ix ix_list (pe_lst (pa_cons pe_int (pa_cons pe_int (pa_cons (pe_c c__law_lot hr (by decide) rfl (pa_cons (pv 0) (pa_cons pe_int pa_nil))) pa_nil)))) (pe_c c__law_lot hr (by decide) rfl (pa_cons (pv 0) (pa_cons pe_int pa_nil))) (fun _ _ => rfl)) (pa_cons pe_non pa_nil)))))
      (pss_cons (ps_set (i := 2) sc__law_row.nd rfl (Or.inl rfl) (pe_ix ix_list (pe_lst (pa_cons pe_int (pa_cons pe_int pa_nil))) (pe_c c__law_lot hr (by decide) rfl (pa_cons (pv 0) (pa_cons pe_int pa_nil))) (fun _ _ => rfl)))
      (pss_cut (ps_set (i := 3) sc__law_row.nd rfl (Or.inl rfl) (pe_slice sl_list (pe_lst (pa_cons pe_str (pa_cons pe_str (pa_cons pe_str (pa_cons pe_str (pa_cons pe_str (pa_cons pe_str (pa_cons pe_str (pa_cons pe_str (pa_cons pe_str pa_nil)))))))))) po_none (po_some (pv 2))))
      (pss_cons (ps_set (i := 4) sc__law_row.nd rfl (Or.inl rfl) (pe_lst (pa_cons (pv 1) pa_nil)))
      (pss_cons (ps_while PassesOwn.never (PW.pt (pw_and (pt_cmpR op_gt (pe_ix ix_tup (pe_ix ix_list (pv 4) (pe_un un_neg pe_int) (fun _ _ => rfl)) pe_int (fun _ _ => rfl)) pe_int (nomark _)) (pw_and1 (pt_cmpR op_gt (pe_c c__law_lot hr (by decide) rfl (pa_cons (pv 0) (pa_cons pe_int pa_nil))) pe_int (nomark _)))))
      (pss_one (ps_expr (pe_bm PySem.F.plainAttrs_list PySem.F.slot_list_append PySem.F.type_list_append mt_append (pv 4) (pa_cons (pe_c c__law_passed hr (by decide) rfl (pa_cons (pv 0) (pa_cons (pe_ix ix_list (pv 4) (pe_un un_neg pe_int) (fun _ _ => rfl)) (pa_cons (pv 3) pa_nil)))) pa_nil)))))
      (pss_one (ps_ret (pv 4))))))))), ?_⟩
    try dsimp only [cxOf]
    walk_at "g"
    refine ⟨u, _, rfl, U0, by omega, fun t L H1 hL hT nt U1 k1 => ?_⟩
    obtain ⟨d, ht, hD⟩ := hT
    unfold LeafD.vs at ht
    walk_at "g"
    refine ⟨u, _, 60, rfl, U1, by omega, by omega, by omega, fun num H2 m0 m1 U2 k2 => ?_⟩
    have ht2 := kp_tup k2 U1.ix ht
    have hD2 := kp_tup k2 U1.ix hD
    have K2 := k1.trans k2
    clear k1 k2 U1 ht hD nt
    walk_at "g"
    intro q1 H3 n3 e3 h3
    walk_at "g"
    intro q2 H4 n4 e4 h4
    have h4' : H4 q2 = some (.tup [.str L.room, .ref d, .str L.giver, .str L.holder, .int L.since, .int L.til]) := h4
    refine ⟨q1, q2, _, _, rfl, rfl, SqT.of (e4 _ _ h3), SqT.of h4', (fun z => by cases z), (show 1 + 6 ≤ sizeLine by decide), (fun z => by cases z), fun _ q3 n5 => ?_⟩
    have e5 : Ex H4 (upd H4 q3 (.tup ([.int num] ++ [.str L.room, .ref d, .str L.giver, .str L.holder, .int L.since, .int L.til]))) := Ex.new n5
    have h5 : upd H4 q3 (.tup ([.int num] ++ [.str L.room, .ref d, .str L.giver, .str L.holder, .int L.since, .int L.til])) q3 = some (.tup [.int num, .str L.room, .ref d, .str L.giver, .str L.holder, .int L.since, .int L.til]) := upd_same
    generalize upd H4 q3 (.tup ([.int num] ++ [.str L.room, .ref d, .str L.giver, .str L.holder, .int L.since, .int L.til])) = H5 at e5 h5 ⊢
    have e35 := (e3.trans e4).trans e5
    have hD5 := e35 _ _ hD2
    have U5 := U2.ex e35
    have K5 := K2.trans (Kp.of e35)
    clear e3 e4 e5 e35 h3 h4 h4' n3 n4 n5 ht2 hD2 U2 K2
    walk_at "g"
    refine ⟨u, _, 7, rfl, U5, by omega, by omega, by omega, fun a6 H6 a60 a61 U6 k6 => ?_⟩
    walk_at "g"
    intro l7 H7 n7 e7 h7
    have U7 := U6.ex e7
    walk_at "g"
    refine ⟨u, _, 3, rfl, U7, by omega, by omega, by omega, fun a8 H8 a80 a81 U8 k8 => ?_⟩
    walk_at "ix"
    intro v hv
    obtain ⟨x3, rfl, g0, g1⟩ : ∃ k, v = .int k ∧ 0 ≤ k ∧ k ≤ 6 := by
      simp only [List.mem_cons, List.not_mem_nil, or_false] at hv
      rcases hv with rfl | rfl | rfl <;> exact ⟨_, rfl, by omega, by omega⟩
    have k58 := k6.trans ((Kp.of e7).trans k8)
    have h8 := kp_tup k58 U5.ix h5
    have hD8 := kp_tup k58 U5.ix hD5
    have K8 := K5.trans k58
    clear hv h7 n7 e7 k6 k8 k58 U6 U7 h5 hD5 K5 U5
    walk_at "g"
    intro q4 H9 n9 e9 h9
    refine ⟨q3, q4, _, _, rfl, rfl, SqT.of (e9 _ _ h8), SqT.of h9, (fun z => by cases z), (show 7 + 2 ≤ sizeLine by decide), (fun z => by cases z), fun _ q5 n5 => ?_⟩
    let F : LeafD := ⟨num, L.room, L.deeds, L.giver, L.holder, L.since, L.til, x3, none⟩
    have e10 : Ex H9 (upd H9 q5 (.tup ([.int num, .str L.room, .ref d, .str L.giver, .str L.holder, .int L.since, .int L.til] ++ [.int x3, .non]))) := Ex.new n5
    have h10 : upd H9 q5 (.tup ([.int num, .str L.room, .ref d, .str L.giver, .str L.holder, .int L.since, .int L.til] ++ [.int x3, .non])) q5 = some (.tup (F.vs d)) := upd_same
    generalize upd H9 q5 (.tup ([.int num, .str L.room, .ref d, .str L.giver, .str L.holder, .int L.since, .int L.til] ++ [.int x3, .non])) = H10 at e10 h10 ⊢
    have hF : F.Ok := ⟨m0, (show num ≤ 999999999 by omega), hL.rm, hL.ds, hL.gv, hL.hd, hL.ne, hL.s0, hL.su, hL.u1, g0, g1, fun a z => by cases z⟩
    have hFn : F.number < 60 := m1
    have e8 := e9.trans e10
    have hT10 : LeafAt H10 q5 F := ⟨d, h10, e8 _ _ hD8⟩
    have U10 := U8.ex e8
    have K10 := K8.trans (Kp.of e8)
    clear_value F
    clear e9 e10 e8 h10 h9 n9 n5 h8 hD8 K8 U8
    walk_at "g"
    intro l2 H11 n11 e11 h11
    have U11 := U10.ex e11
    walk_at "g"
    refine ⟨u, _, 2, rfl, U11, by omega, by omega, by omega, fun a8 H12 a80 a81 U12 k12 => ?_⟩
    walk_at "ix"
    intro v hv
    obtain ⟨mm, rfl, hmm⟩ : ∃ k : Int, v = .int k ∧ (k = 3 ∨ k = 9) := by
      simp only [List.mem_cons, List.not_mem_nil, or_false] at hv
      rcases hv with rfl | rfl
      · exact ⟨_, rfl, .inl rfl⟩
      · exact ⟨_, rfl, .inr rfl⟩
    have k1112 := (Kp.of (u := u) e11).trans k12
    have hT12 := hT10.kp k1112 U10.ix
    have K12 := K10.trans k1112
    clear hv h11 n11 e11 k12 U11 hT10 K10 k1112 U10
    walk_at "g"
    refine ⟨fun σ' H' => ∃ (nm : Addr) (names : List Str), σ' = [some (.ref u), some (.ref q5), some (.int mm), some (.ref nm), none] ∧ H' nm = some (.lst (names.map V.str)) ∧ names.Nodup ∧ (∀ x ∈ names, IsNm x) ∧ 2 ≤ names.length ∧ names.length ≤ 100 ∧ LeafAt H' q5 F ∧ UA Ur u 80 H' ∧ Kp u H H', ?_, ?_⟩
    · walk_at "g"
      intro l9 H13 n13 e13 h13
      walk_at "g"
      intro nm H14 n14 e14 h14
      walk_at "g"
      have e134 := e13.trans e14
      have hall : ∀ names : List Str, (names.all fun x => nmL x.cps.toList) = true → ∀ x ∈ names, IsNm x := fun names h x hx => List.all_eq_true.mp h x hx
      rcases hmm with rfl | rfl
      · exact ⟨nm, ["ann", "bob", "carl"], rfl, h14, by decide +kernel, hall _ (by decide +kernel), by decide, by decide, hT12.ex e134, (U12.ex e134).mono (by omega), K12.trans (Kp.of e134)⟩
      · exact ⟨nm, ["ann", "bob", "carl", "dora", "emil", "fay", "gus", "hal", "ida"], rfl, h14, by decide +kernel, hall _ (by decide +kernel), by decide, by decide, hT12.ex e134, (U12.ex e134).mono (by omega), K12.trans (Kp.of e134)⟩
    clear hT12 U12 K12
    rintro σ' H13 ⟨nm, names, rfl, hN, hnd, hnm, hl2, hl1, hT13, U13, K13⟩
    walk_at "g"
    intro p H14 n14 e14 h14
    have hT14 := hT13.ex e14
    have hN14 := e14 _ _ hN
    have hpn : nm ≠ p := fun z => by
      rw [z, n14] at hN
      cases hN
    have U14 := U13.ex e14
    have hpu : p ≠ u := U13.ne n14
    have np0 : H p = none := Kp.fresh K13 U0.ix n14 U13.ix
    have K14 := K13.trans (Kp.of e14)
    clear hT13 hN U13 K13 e14 n14
    walk_at "g"
    refine ⟨fun m σ' H' => ∃ (pre : List (Addr × LeafD)) (t1 : Addr) (L1 : LeafD), σ' = [some (.ref u), some (.ref q5), some (.int mm), some (.ref nm), some (.ref p)] ∧ RowAt H' p (pre ++ [(t1, L1)]) ∧ (m : Int) = L1.passes ∧ pre.length + 1 + m ≤ 7 ∧ L1.number ≤ 60 + 3 * pre.length ∧ H' nm = some (.lst (names.map V.str)) ∧ UA Ur u (80 + 25 * pre.length) H' ∧ Kp u H H',
      ⟨F.passes.toNat, [], q5, F, rfl, ⟨h14, fun x hx => by obtain rfl := List.mem_singleton.mp hx; exact ⟨hT14, hF⟩, trivial⟩, by have := hF.p0; omega, by have := hF.p1; simp; omega, by simp; omega, hN14, U14, K14⟩, ?_⟩
    clear hT14 h14 hN14 U14 K14
    rintro m σ' H15 ⟨pre, t1, L1, rfl, ⟨hp, hall, hch⟩, em, hm7, hnum, hN15, U15, K15⟩
    have hlast : atI ((pre ++ [(t1, L1)]).map fun x => V.ref x.1) (-1) = some (.ref t1) := by
      rw [List.map_append]
      exact atI_last _ _
    obtain ⟨⟨d1, ht1, hD1⟩, hL1⟩ := hall (t1, L1) (by simp)
    unfold LeafD.vs at ht1
    walk_at "g"
    have out : ∀ H', Ex H15 H' ∨ Kp u H15 H' → UA Ur u (80 + 25 * pre.length + 1) H' → Q (.ref p) H' := fun H' e V => by
      have k15 : Kp u H15 H' := e.elim Kp.of id
      refine k p (pre ++ [(t1, L1)]) H' ⟨kp_lst k15 U15.ix hp, fun x hx => ⟨(hall x hx).1.kp k15 U15.ix, (hall x hx).2⟩, hch⟩ (by simp) (by rw [List.length_append, List.length_singleton]; omega) (V.mono (by omega)) (K15.trans k15)
    refine g_ixL (SqL.of hp) hlast ?_
    walk_at "g"
    refine ite2 (fun hpos => ?_) (fun hpos => ?_)
    · have hpos' : 0 < L1.passes := by simpa using hpos
      walk_at "g"
      refine ⟨u, _, 12, rfl, U15, by omega, by omega, by omega, fun a H16 a0 a1 U16 k16 => ?_⟩
      walk_at "g"
      refine ite2 (fun hq => ?_) (fun hq => ?_)
      · have hp16 := kp_lst k16 U15.ix hp
        have hN16 := kp_lst k16 U15.ix hN15
        have hT16 : LeafAt H16 t1 L1 := LeafAt.kp ⟨d1, ht1, hD1⟩ k16 U15.ix
        have K16 := K15.trans k16
        refine ⟨fun σ' H' => ∃ (pre : List (Addr × LeafD)) (t2 : Addr) (L2 : LeafD), σ' = [some (.ref u), some (.ref q5), some (.int mm), some (.ref nm), some (.ref p)] ∧ RowAt H' p (pre ++ [(t2, L2)]) ∧ L2.passes < L1.passes ∧ 0 ≤ L2.passes ∧ pre.length + 1 + L2.passes.toNat ≤ 7 ∧ L2.number ≤ 60 + 3 * pre.length ∧ H' nm = some (.lst (names.map V.str)) ∧ UA Ur u (80 + 25 * pre.length) H' ∧ Kp u H H',
          fun σ' H' ⟨pre, t2, L2, a1, a2, a3, a4, a5, a6, a7, a8, a9⟩ => ⟨L2.passes.toNat, by omega, pre, t2, L2, a1, a2, by omega, a5, a6, a7, a8, a9⟩, ?_⟩
        walk_at "g"
        refine g_BM ?_
        walk_at "g"
        refine ⟨.inl ⟨rfl, _, SqL.of hp16⟩, ?_⟩
        walk_at "g"
        refine g_ixL (SqL.of hp16) hlast ?_
        walk_at "g"
        refine ⟨u, t1, nm, _, L1, names, rfl, U16, by omega, hT16, hL1, by omega, hpos', hN16, hnd, hnm, hl2, hl1, fun T2 W H17 hW hB hT17 nT U17 k17 => ?_⟩
        walk_at "g"
        have hp17 := kp_lst k17 U16.ix hp16
        have K17 := K16.trans k17
        refine ⟨p, _, _, rfl, rfl, hp17, ?_, ?_⟩
        · rw [List.length_map, List.length_append, List.length_singleton]
          exact Nat.lt_of_le_of_lt (show pre.length + 1 ≤ 7 by omega) (by decide)
        walk_at "g"
        have hN17 := kp_lst k17 U16.ix hN16
        refine ⟨pre ++ [(t1, L1)], T2, W, rfl, ⟨?_, ?_, chain_snoc pre (t1, L1) (T2, W) hch hB⟩, hB.passes, hW.p0, ?_, ?_, (upd_ne hpn).trans hN17, (U17.mono ?_).upd hpu, K17.upd np0⟩
        · rw [upd_same]
          simp
        · intro x hx
          rcases List.mem_append.mp hx with hx | hx
          · exact ⟨(((hall x hx).1.kp k16 U15.ix).kp k17 U16.ix).updL hp17, (hall x hx).2⟩
          · obtain rfl := List.mem_singleton.mp hx
            exact ⟨hT17.updL hp17, hW⟩
        · have := hB.passes
          have := hW.p0
          rw [List.length_append, List.length_singleton]
          omega
        · have := hB.num
          rw [List.length_append, List.length_singleton]
          push_cast
          omega
        · rw [List.length_append, List.length_singleton]
          omega
      · walk_at "g"
        exact out H16 (.inr k16) U16
    · refine ite_ff ?_
      walk_at "g"
      exact out H15 (.inl (Ex.refl _)) (U15.mono (by omega))

end
end K10

namespace K10
open PySem PySem.Spec PyProof.Rows L2 Lk Evl









local macro_rules | `(tactic| walk_at "hx") => `(tactic| first
  | exact UA.ix (by assumption)
  | exact UA.ix (UA.ex' (by assumption) (by assumption))
  | exact UA.ix (UA.ex' (by assumption) (UA.ex' (by assumption) (by assumption)))
  | exact UA.ix (UA.ex' (by assumption) (UA.ex' (by assumption) (UA.ex' (by assumption) (by assumption)))))
local macro_rules | `(tactic| walk_at "tr1") => `(tactic| first
  | ((with_reducible show SqL _ _ _ _); first
    | assumption
    | exact .inl (.inl (by assumption))
    | with_reducible refine' ex_l (by assumption) ?_
    | (with_reducible refine' kp_l (by assumption) ?hx ?_); (case hx => walk_at "hx"))
  | ((with_reducible show SqT _ _ _ _); first
    | assumption
    | exact .inl (.inl (by assumption))
    | with_reducible refine' ex_t (by assumption) ?_
    | (with_reducible refine' kp_t (by assumption) ?hx ?_); (case hx => walk_at "hx"))
  | ((with_reducible show _ = some _); first
    | assumption
    | with_reducible refine' ex_lst (by assumption) ?_
    | (with_reducible refine' kp_lst (by assumption) ?hx ?_); (case hx => walk_at "hx")
    | (with_reducible refine' kp_tup (by assumption) ?hx ?_); (case hx => walk_at "hx")
    | (with_reducible refine' kp_dK (by assumption) ?hx ?_); (case hx => walk_at "hx")))
local macro_rules | `(tactic| walk_at "tr") => `(tactic| (repeat (any_goals (walk_at "tr1"))); done)
local macro_rules | `(tactic| walk_at "ix") => `(tactic| first
  | (with_reducible show rIxL _ _ _ _ _); (refine' g_ixLm ?hs ?h0 ?h1 ?hq); (case hs => walk_at "tr"); (case h0 => omega); (case h1 => (simp only [List.length_cons, List.length_nil]; omega)); (case' hq => skip)
  | (with_reducible show rIxT _ _ _ _ _); (refine' g_ixTm ?hs ?h0 ?h1 ?hq); (case hs => walk_at "tr"); (case h0 => omega); (case h1 => (simp only [List.length_cons, List.length_nil]; omega)); (case' hq => skip)
  | (with_reducible show rIxS _ _ _ _); (refine' g_ixSm ?hs ?h0 ?h1 ?hq); (case hs => decide +kernel); (case h0 => omega); (case h1 => exact Int.lt_of_lt_of_le (by assumption) (by decide +kernel)); (case' hq => skip))
local macro_rules | `(tactic| walk_at "g1") => `(tactic| first
  | (with_reducible show tVar _ _ _ _); refine g_var rfl ?_
  | with_reducible refine g_c ?_
  | (with_reducible refine g_seq ?_); (try dsimp only [List.set_cons_succ, List.set_cons_zero])
  | with_reducible refine g_op ?_
  | with_reducible refine g_un ?_
  | with_reducible refine g_I0 ?_
  | with_reducible refine g_U ?_
  | (with_reducible refine g_Eq ?hs ?_); (case hs => rfl)
  | (with_reducible refine g_Ne ?hs ?_); (case hs => rfl)
  | with_reducible refine g_test ?_
  | with_reducible refine g_B ?_
  | with_reducible refine g_ifS ?_
  | with_reducible refine g_asg ?_
  | with_reducible refine g_asgG ?_
  | with_reducible refine g_ret ?_
  | with_reducible refine g_retU ?_
  | with_reducible refine g_drop ?_
  | with_reducible refine g_next ?_
  | with_reducible refine g_name ?_
  | with_reducible refine g_and ?_
  | with_reducible refine g_or ?_
  | with_reducible refine g_not ?_
  | with_reducible refine g_andV ?_
  | with_reducible refine g_orV ?_
  | with_reducible refine g_notV ?_
  | with_reducible refine g_if ?_
  | with_reducible refine g_nil ?_
  | with_reducible refine g_cons ?_
  | with_reducible refine g_call ?_
  | with_reducible refine g_callKw ?_
  | with_reducible refine g_callS ?_
  | with_reducible refine g_cb ?_
  | with_reducible refine g_tup ?_
  | with_reducible refine g_lst ?_
  | with_reducible refine g_ipI ?_
  | with_reducible refine g_sub ?_
  | with_reducible refine g_augS ?_
  | (with_reducible show tAug _ _ _ _ _ _); refine g_aug rfl ?_
  | with_reducible refine g_M1 ?_
  | with_reducible refine g_M0 ?_
  | with_reducible refine g_yes ?_
  | with_reducible refine g_sl ?_
  | with_reducible refine g_nopart ?_
  | with_reducible refine g_part ?_
  | with_reducible refine g_lc ?_
  | with_reducible refine g_join ?_
  | (with_reducible show gTup _ _ _ (V.ref _) _ _ _); (refine' ⟨_, _, rfl, ?hs, ?hl, ?hm⟩); (case hs => walk_at "tr"); (case hl => rfl); (case' hm => skip)
  | (with_reducible show gCons _ _ _ _ _ _); (refine ⟨_, _, rfl, ?_⟩)
  | (with_reducible show gNil _ _ _ _); (refine ⟨rfl, ?_⟩)
  | (with_reducible show V.non = V.non ∧ _); (refine ⟨rfl, ?_⟩)
  | (with_reducible show rSlT _ _ _ _ _ _); (refine' g_slT ?hs ?hn ?hy ?hm); (case hs => walk_at "tr"); (case hn => first | exact fun z => absurd z.2 (Nat.ne_of_beq_eq_false rfl) | exact fun z => absurd z.1 (Nat.ne_of_beq_eq_false rfl)); (case hy => rfl); (case' hm => skip)
  | (with_reducible show rSlL _ _ _ _ _ _); (refine' g_slL ?hs ?hm); (case hs => walk_at "tr"); (case' hm => skip)
  | with_reducible refine g_js ?_
  | with_reducible refine g_js0 ?_
  | with_reducible refine g_fmt ?_
  | with_reducible refine g_for ?_
  | with_reducible refine g_iR1 ?_
  | with_reducible refine g_iL ?_
  | with_reducible refine g_iT ?_
  | with_reducible refine g_iE ?_
  | with_reducible refine g_iZ ?_
  | (with_reducible show ∃ k, V.bl _ = V.bl k ∧ _); refine ⟨_, rfl, ?_⟩
  | (with_reducible show ∃ k, V.int _ = V.int k ∧ _); refine ⟨_, rfl, ?_⟩
  | (with_reducible show (∃ a, V.str _ = V.str a) ∧ _); refine ⟨⟨_, rfl⟩, ?_⟩
  | (with_reducible show ∃ j : Int, [V.int _] = [V.int j] ∧ -(2 ^ 62) ≤ j ∧ _); (refine ⟨_, rfl, ?h0, ?h1, ?hm⟩); (case h0 => omega); (case h1 => omega); (case' hm => skip)
  | (with_reducible show ∃ i j : Int, [V.int _, V.int _] = [V.int i, V.int j] ∧ _); (refine ⟨_, _, rfl, ?_⟩)
  | (with_reducible show (∃ i : Int, [V.bl _] = [V.int i] ∧ _) ∨ _); (refine .inr ⟨_, rfl, ?_⟩)
  | (with_reducible show (∃ i : Int, [V.int _] = [V.int i] ∧ _) ∨ _); (refine .inl ⟨_, rfl, ?_⟩)
  | (with_reducible show ∃ a, V.ref _ = V.ref a ∧ (∃ xs, SqL _ _ a xs) ∧ _); (refine' ⟨_, rfl, ⟨_, ?hs⟩, ?hm⟩); (case hs => walk_at "tr"); (case' hm => skip)
  | (with_reducible show ∃ a, V.ref _ = V.ref a ∧ (∃ xs, SqT _ _ a xs) ∧ _); (refine' ⟨_, rfl, ⟨_, ?hs⟩, ?hm⟩); (case hs => walk_at "tr"); (case' hm => skip)
  | (with_reducible show ∃ a xs, [V.ref _] = [V.ref a] ∧ SqL _ _ a xs ∧ _); (refine' ⟨_, _, rfl, ?hs, ?hm⟩); (case hs => walk_at "tr"); (case' hm => skip)
  | (with_reducible show rIxL _ _ _ _ _); (refine' g_ixL ?hs ?ha ?hm); (case hs => walk_at "tr"); (case ha => rfl); (case' hm => skip)
  | (with_reducible show rIxT _ _ _ _ _); (refine' g_ixT ?hs ?ha ?hm); (case hs => walk_at "tr"); (case ha => rfl); (case' hm => skip)
  | (with_reducible show rGetL _ _ _ _ _); (refine' g_getL ?hs ?h0 ?ha ?hm); (case hs => walk_at "tr"); (case h0 => decide); (case ha => rfl); (case' hm => skip)
  | (with_reducible refine g_newL ?hz ?_); (case hz => exact small_sz (Nat.le_of_ble_eq_true rfl))
  | (with_reducible refine g_newT ?hz ?_); (case hz => exact small_sz (Nat.le_of_ble_eq_true rfl))
  | (with_reducible refine g_I ?hc ?_); (case hc => first
      | exact ⟨by omega, by omega⟩ | exact Or.inl ⟨by omega, by omega⟩ | exact Or.inr ⟨by omega, by omega⟩ | ((with_reducible show (0 : Int) < _); omega) | exact ⟨by omega, by omega, by omega⟩ | decide))
local macro_rules | `(tactic| walk_at "g") => `(tactic| repeat (walk_at "g1"))

section
variable {P : Program} {w : World} {K : PySem.W.Frag} {mg : Str → Option Value} {base : Heap}


def ltB (c : Nat) : Bool := decide (97 ≤ c) && decide (c ≤ 122)
theorem isNm_cut {z : Str} (h1 : 1 ≤ z.cps.toList.length) (ha : z.cps.toList.all ltB = true) : IsNm (cutS z none (some 8)) := by
  have e1 : HT.sIx z.length 0 none = 0 := rfl
  have hz : z.length = z.cps.toList.length := TL.len_tl z
  have e2 : HT.sIx z.length z.length (some 8) = min 8 z.cps.toList.length := by
    rw [hz]
    unfold HT.sIx
    simp
  unfold IsNm cutS
  rw [e1, e2, List.drop_zero, Nat.sub_zero]
  show nmL (z.cps.toList.take (min 8 z.cps.toList.length)) = true
  unfold nmL
  rw [List.length_take]
  simp only [Bool.and_eq_true, decide_eq_true_eq]
  refine ⟨⟨by omega, by omega⟩, List.all_eq_true.mpr fun c hc => ?_⟩
  exact List.all_eq_true.mp ha c (List.mem_of_mem_take hc)
theorem nm_lt {x : Str} (h : IsNm x) : 1 ≤ x.cps.toList.length ∧ x.cps.toList.all ltB = true := by
  have h2 := _root_.id h
  unfold IsNm nmL at h2
  simp only [Bool.and_eq_true, decide_eq_true_eq] at h2
  exact ⟨h2.1.1, h2.2⟩
theorem nm_snoc {x y : Str} (h : IsNm x) (hy : y.cps.toList.all ltB = true) : 1 ≤ (x ++ y).cps.toList.length ∧ (x ++ y).cps.toList.all ltB = true := by
  obtain ⟨a, b⟩ := nm_lt h
  have e : (x ++ y).cps.toList = x.cps.toList ++ y.cps.toList := TL.tl_append x y
  rw [e, List.length_append, List.all_append, b, hy]
  exact ⟨by omega, rfl⟩

/-- a leave that reaches beyond W -/
def Beyond (W B : LeafD) : Prop := B.Ok ∧ lwB B W = false
def spBeyond : Sp := fun vs H Q _ => ∃ (t o : Addr) (L W : LeafD), vs = [.ref t, .ref o] ∧ LeafAt H t L ∧ LeafAt H o W ∧ L.Ok ∧ W.Ok ∧ Below W L ∧
  ∀ p (rs : List (Addr × LeafD)) H2, H2 p = some (.lst (rs.map fun x => V.ref x.1)) → (∀ x ∈ rs, LeafAt H2 x.1 x.2 ∧ Beyond W x.2) → rs.length ≤ 6 → Ex H H2 → Q (.ref p) H2
theorem g_catT {H : Hp} {Q : VK} {a b : Addr} {xs ys : List V} (ha : SqT K H a xs) (hb : SqT K H b ys) (hx : xs ≠ []) (hy : ys ≠ []) (hz : xs.length + ys.length ≤ sizeLine) (q : ∀ p H2, H p = none → Ex H H2 → H2 p = some (.tup (xs ++ ys)) → Q (.ref p) H2) : rCatT K (.ref a) (.ref b) H Q :=
  ⟨a, b, xs, ys, rfl, rfl, ha, hb, hx, hz, fun z => absurd z hy, fun _ p np => q p _ np (Ex.new np) upd_same⟩
theorem nm_tail {x : Str} (h : IsNm x) (h8 : x.length = 8) : IsNm (cutS x (some 1) none) ∧ cutS x (some 1) none ≠ x := by
  have hz : x.length = x.cps.toList.length := TL.len_tl x
  have e1 : HT.sIx x.length 0 (some 1) = 1 := by
    rw [h8] <;> rfl
  have e2 : HT.sIx x.length x.length none = 8 := by
    rw [h8] <;> rfl
  obtain ⟨a, b⟩ := nm_lt h
  have el : (cutS x (some 1) none).cps.toList = x.cps.toList.drop 1 := by
    unfold cutS
    rw [e1, e2]
    show (x.cps.toList.drop 1).take (8 - 1) = _
    rw [List.take_of_length_le]
    rw [List.length_drop]
    omega
  have ll : (cutS x (some 1) none).cps.toList.length = 7 := by
    rw [el, List.length_drop]
    omega
  refine ⟨?_, fun z => ?_⟩
  · unfold IsNm nmL
    rw [ll]
    simp only [Bool.and_eq_true, decide_eq_true_eq]
    refine ⟨⟨by omega, by omega⟩, List.all_eq_true.mpr fun c hc => ?_⟩
    rw [el] at hc
    exact List.all_eq_true.mp b c (List.mem_of_mem_drop hc)
  · rw [z] at ll
    omega
def K3 : List V := [.str "kim", .str "lea", .str "max"]
theorem keep3 (a b : Str) : 1 ≤ ((K3.filter fun v => !(inV v [.str a, .str b])).map id).length ∧ ∀ v ∈ (K3.filter fun v => !(inV v [.str a, .str b])).map id, ∃ y, v = .str y ∧ IsNm y ∧ y ≠ a ∧ y ≠ b := by
  rw [List.map_id]
  have ein : ∀ y : Str, inV (.str y) [.str a, .str b] = (a == y || b == y) := fun y => by
    show (List.any [V.str a, V.str b] fun z => eqV z (.str y)) = _
    rw [List.any_cons, List.any_cons, List.any_nil, Bool.or_false] <;> rfl
  have put : ∀ y : Str, V.str y ∈ K3 → a ≠ y → b ≠ y → 1 ≤ (K3.filter fun v => !(inV v [.str a, .str b])).length := fun y hy h1 h2 => by
    refine List.length_pos_of_mem (a := V.str y) (List.mem_filter.mpr ⟨hy, ?_⟩)
    rw [ein]
    simp [h1, h2]
  refine ⟨?_, fun v hv => ?_⟩
  · by_cases k1 : a = "kim"
    · by_cases k2 : b = "lea"
      · exact put "max" (by simp [K3]) (by rw [k1]; decide +kernel) (by rw [k2]; decide +kernel)
      · exact put "lea" (by simp [K3]) (by rw [k1]; decide +kernel) k2
    · by_cases k2 : b = "kim"
      · by_cases k3 : a = "lea"
        · exact put "max" (by simp [K3]) (by rw [k3]; decide +kernel) (by rw [k2]; decide +kernel)
        · exact put "lea" (by simp [K3]) k3 (by rw [k2]; decide +kernel)
      · exact put "kim" (by simp [K3]) k1 k2
  · obtain ⟨h1, h2⟩ := List.mem_filter.mp hv
    have go : ∀ y : Str, v = .str y → IsNm y → ∃ y, v = .str y ∧ IsNm y ∧ y ≠ a ∧ y ≠ b := fun y e hn => by
      subst e
      rw [ein] at h2
      refine ⟨y, rfl, hn, fun z => ?_, fun z => ?_⟩
      · rw [z] at h2
        simp at h2
      · rw [z] at h2
        simp at h2
    simp only [K3, List.mem_cons, List.not_mem_nil, or_false] at h1
    rcases h1 with e | e | e
    · exact go _ e (by unfold IsNm; decide +kernel)
    · exact go _ e (by unfold IsNm; decide +kernel)
    · exact go _ e (by unfold IsNm; decide +kernel)
theorem bey {B W : LeafD} (h : B.Ok) (f : lwB B W = true → False) : Beyond W B := ⟨h, Bool.eq_false_iff.mpr f⟩
theorem ok_beyond (T : Txt K mg) (A : At K mg "_law_beyond" s__law_beyond ["leaf", "other"]) : Cal P w K mg base 1 "_law_beyond" spBeyond := by
  refine A.of fun f fd F => fn_ok F sc__law_beyond (fun vs H Q E h => ?_) (fun cdv A outer s H vs Q E hr h => ?_)
  · obtain ⟨t, o, L, W, rfl, _⟩ := h
    rfl
  · obtain ⟨t, o, L, W, rfl, ⟨d, ht, hD⟩, ⟨e, ho, hE⟩, hL, hW, hB, k⟩ := h
    refine ⟨_, [some (.ref t), some (.ref o), none, none, none, none, none, none, none, none, none, none, none, none, none], rfl, (pss_cons (ps_asg (pe_slice sl_tup (pv 0) po_none (po_some pe_int)) (pg_tup rfl (pgs_cons (pg_name (i := 2) sc__law_beyond.nd rfl (Or.inl rfl)) (pgs_cons (pg_name (i := 3) sc__law_beyond.nd rfl (Or.inl rfl)) (pgs_cons (pg_name (i := 4) sc__law_beyond.nd rfl (Or.inl rfl)) (pgs_cons (pg_name (i := 5) sc__law_beyond.nd rfl (Or.inr rfl)) (pgs_cons (pg_name (i := 6) sc__law_beyond.nd rfl (Or.inr rfl)) pgs_nil)))))))
      (pss_cons (ps_asg (pe_slice sl_tup (pv 0) (po_some pe_int) po_none) (pg_tup rfl (pgs_cons (pg_name (i := 7) sc__law_beyond.nd rfl (Or.inl rfl)) (pgs_cons (pg_name (i := 8) sc__law_beyond.nd rfl (Or.inl rfl)) (pgs_cons (pg_name (i := 9) sc__law_beyond.nd rfl (Or.inl rfl)) (pgs_cons (pg_name (i := 10) sc__law_beyond.nd rfl (Or.inl rfl)) pgs_nil))))))
      (pss_cut (ps_set (i := 11) sc__law_beyond.nd rfl (Or.inl rfl) (pe_ifExp (pt_cmpR op_eq (pe_callB call_len_str (by rfl) T.z_len (by decide +kernel) (pa_cons (pv 3) pa_nil)) pe_int (nomark _)) (pe_slice sl_str (pv 3) (po_some pe_int) po_none) (pe_op op_add_str (pv 3) pe_str)))
      (pss_cut (ps_set (i := 12) sc__law_beyond.nd rfl (Or.inl rfl) (pe_ix ix_list (pe_lc (own := [("name", 13)]) (g := gName 13) (tt := _) rfl sc__law_beyond.nd (pi_list (pe_lst (pa_cons pe_str (pa_cons pe_str (pa_cons pe_str pa_nil))))) (blkOk_by (own := [("name", 13)]) (N := ["leaf", "other", "number", "room", "deeds", "giver", "holder", "since", "until", "passes", "above", "place", "keeper", "name", "found"]) (sc := defScope s__law_beyond) (by decide +kernel)) (fun _ _ _ _ _ => (pg_name (i := 13) sc__law_beyond.nd rfl (Or.inl rfl))) (fun _ _ _ _ _ => (pts_one (pt_cmpR (op_notIn_seqK (K := K) rfl) (pv 13) (pe_tup (pa_cons (pv 5) (pa_cons (pv 6) pa_nil))) (by rfl)))) (fun _ _ _ _ _ => (pv 13))) pe_int (fun _ _ => rfl)))
      (pss_cut (ps_set (i := 14) sc__law_beyond.nd rfl (Or.inl rfl) (pe_lst (pa_cons (pe_op op_catT (pe_op op_catT (pe_slice sl_tup (pv 0) po_none (po_some pe_int)) (pe_tup (pa_cons (pv 11) pa_nil))) (pe_slice sl_tup (pv 0) (po_some pe_int) po_none)) (pa_cons (pe_op op_catT (pe_op op_catT (pe_slice sl_tup (pv 0) po_none (po_some pe_int)) (pe_tup (pa_cons (pv 12) pa_nil))) (pe_slice sl_tup (pv 0) (po_some pe_int) po_none)) (pa_cons (pe_op op_catT (pe_slice sl_tup (pv 0) po_none (po_some pe_int)) (pe_tup (pa_cons (pe_ix ix_tup (pv 1) pe_int (fun _ _ => rfl)) (pa_cons (pv 10) pa_nil)))) pa_nil)))))
      (pss_cut (ps_if (pt_cmpR op_gt (pe_ix ix_tup (pv 1) pe_int (fun _ _ => rfl)) pe_int (nomark _))
      (pss_one (ps_expr (pe_bm PySem.F.plainAttrs_list PySem.F.slot_list_append PySem.F.type_list_append mt_append (pv 14) (pa_cons (pe_op op_catT (pe_op op_catT (pe_slice sl_tup (pv 0) po_none (po_some pe_int)) (pe_tup (pa_cons (pe_op op_sub (pe_ix ix_tup (pv 1) pe_int (fun _ _ => rfl)) pe_int) pa_nil))) (pe_slice sl_tup (pv 0) (po_some pe_int) po_none)) pa_nil))))
      pss_nil)
      (pss_cut (ps_if (pt_cmpR op_lt (pe_ix ix_tup (pv 1) pe_int (fun _ _ => rfl)) (pe_op op_pow pe_int pe_int) (nomark _))
      (pss_one (ps_expr (pe_bm PySem.F.plainAttrs_list PySem.F.slot_list_append PySem.F.type_list_append mt_append (pv 14) (pa_cons (pe_op op_catT (pe_op op_catT (pe_slice sl_tup (pv 0) po_none (po_some pe_int)) (pe_tup (pa_cons (pe_op op_add (pe_ix ix_tup (pv 1) pe_int (fun _ _ => rfl)) pe_int) pa_nil))) (pe_slice sl_tup (pv 0) (po_some pe_int) po_none)) pa_nil))))
      pss_nil)
      (pss_cut (ps_if (pt_cmpR op_eq (pe_callB call_len_seq (by rfl) T.z_len (by decide +kernel) (pa_cons (pe_ix ix_tup (pv 1) pe_int (fun _ _ => rfl)) pa_nil)) pe_int (nomark _))
      (pss_one (ps_expr (pe_bm PySem.F.plainAttrs_list PySem.F.slot_list_append PySem.F.type_list_append mt_append (pv 14) (pa_cons (pe_op op_catT (pe_op op_catT (pe_slice sl_tup (pv 0) po_none (po_some pe_int)) (pe_tup (pa_cons (pe_tup (pa_cons pe_str (pa_cons pe_str pa_nil))) pa_nil))) (pe_slice sl_tup (pv 0) (po_some pe_int) po_none)) pa_nil))))
      pss_nil)
      (pss_one (ps_ret (pv 14))))))))))), ?_⟩
    try dsimp only [cxOf]
    unfold LeafD.vs at ht ho
    walk_at "g"
    intro p1 H1 n1 e1 h1
    walk_at "g"
    intro p2 H2 n2 e2 h2
    walk_at "g"
    have e12 := e1.trans e2
    have ht2 := e12 _ _ ht
    have ho2 := e12 _ _ ho
    have hD2 := e12 _ _ hD
    have hE2 := e12 _ _ hE
    clear h1 h2 e1 e2 n1 n2 ht ho hD hE
    refine ⟨fun σ' H' => ∃ place : Str, IsNm place ∧ place ≠ L.room ∧ σ' = [some (.ref t), some (.ref o), some (.int L.number), some (.str L.room), some (.ref d), some (.str L.giver), some (.str L.holder), some (.int L.since), some (.int L.til), some (.int L.passes),
      some (aboveV L.above), some (.str place), none, none, none] ∧ H' = H2, ?_, ?_⟩
    · walk_at "g"
      refine ⟨_, rfl, Nat.le_trans hL.rm.len.2 (by decide), ?_⟩
      walk_at "g"
      refine ite2 (fun hp => ?_) (fun hp => ?_)
      · have h8 : L.room.length = 8 := by
          have : (L.room.length : Int) = 8 := by simpa using hp
          omega
        walk_at "g"
        refine ⟨_, rfl, Nat.le_trans hL.rm.len.2 (by decide), ?_⟩
        walk_at "g"
        exact ⟨_, (nm_tail hL.rm h8).1, (nm_tail hL.rm h8).2, rfl, rfl⟩
      · have h8 : ¬ L.room.length = 8 := by
          have : ¬ (L.room.length : Int) = 8 := by simpa using hp
          omega
        have lk := hL.rm.len
        walk_at "g"
        refine ⟨_, _, rfl, rfl, Nat.le_trans (Nat.add_le_add lk.2 (show (Str.ofString "x").length ≤ 1 by decide +kernel)) (by decide), ?_⟩
        walk_at "g"
        have y := nm_snoc (y := Str.ofString "x") hL.rm (by decide +kernel)
        have yl : (L.room ++ Str.ofString "x").length = L.room.length + 1 := by
          rw [str_len_append] <;> rfl
        refine ⟨L.room ++ Str.ofString "x", ?_, fun z => ?_, rfl, rfl⟩
        · unfold IsNm nmL
          have el := TL.len_tl (L.room ++ Str.ofString "x")
          simp only [Bool.and_eq_true, decide_eq_true_eq]
          refine ⟨⟨y.1, ?_⟩, y.2⟩
          rw [← el, yl]
          omega
        · rw [z] at yl
          omega
    rintro σ' H3 ⟨place, pl1, pl2, rfl, rfl⟩
    refine ⟨fun σ' H' => ∃ keeper : Str, IsNm keeper ∧ keeper ≠ L.giver ∧ keeper ≠ L.holder ∧ σ' = [some (.ref t), some (.ref o), some (.int L.number), some (.str L.room), some (.ref d), some (.str L.giver), some (.str L.holder), some (.int L.since), some (.int L.til), some (.int L.passes),
      some (aboveV L.above), some (.str place), some (.str keeper), none, none] ∧ Ex H3 H', ?_, ?_⟩
    · walk_at "g"
      intro l1 H4 n4 e4 h4
      refine ⟨l1, rfl, ⟨_, SqL.of h4⟩, fun Dl nD => ?_⟩
      refine lcL (xs := K3) (j := 13) (fun v => !(inV v [.str L.giver, .str L.holder])) id (by decide) nD (SqL.of h4) ?_ ?_ ?_
      · intro x hx H5 R e5 r
        have hx2 : flatV x = true := by
          simp only [K3, List.mem_cons, List.not_mem_nil, or_false] at hx
          rcases hx with rfl | rfl | rfl <;> rfl
        walk_at "g"
        intro q H6 n6 e6 h6
        refine ⟨q, _, rfl, .inr (SqT.of h6), hx2, rfl, ?_⟩
        walk_at "g"
        exact r H6 e6
      · intro x hx H5 R e5 r
        walk_at "g"
        exact r
      · intro H5 e5 h5
        walk_at "g"
        obtain ⟨q1, q2⟩ := keep3 L.giver L.holder
        refine g_ixLm (SqL.of h5) (by decide) (by omega) fun v hv => ?_
        obtain ⟨y, rfl, y1, y2, y3⟩ := q2 v hv
        walk_at "g"
        exact ⟨y, y1, y2, y3, rfl, e4.trans e5⟩
    rintro σ' H4 ⟨keeper, kp1, kp2, kp3, rfl, e4⟩
    have ht4 := e4 _ _ ht2
    have ho4 := e4 _ _ ho2
    have hD4 := e4 _ _ hD2
    have hE4 := e4 _ _ hE2
    have e04 := e12.trans e4
    clear ht2 ho2 hD2 hE2 e12 e4
    refine ⟨fun σ' H' => ∃ (p : Addr) (rs : List (Addr × LeafD)), σ' = [some (.ref t), some (.ref o), some (.int L.number), some (.str L.room), some (.ref d), some (.str L.giver), some (.str L.holder), some (.int L.since), some (.int L.til), some (.int L.passes),
      some (aboveV L.above), some (.str place), some (.str keeper), none, some (.ref p)] ∧ H' p = some (.lst (rs.map fun x => V.ref x.1)) ∧ (∀ x ∈ rs, LeafAt H' x.1 x.2 ∧ Beyond W x.2) ∧ rs.length ≤ 3 ∧ Ex H4 H' ∧ H4 p = none, ?_, ?_⟩
    · walk_at "g"
      intro a5 H5 n5 e5 h5
      walk_at "g"
      intro a6 H6 n6 e6 h6
      refine g_catT (SqT.of (e6 _ _ h5)) (SqT.of h6) (fun z => by cases z) (fun z => by cases z) (show 1 + 1 ≤ sizeLine by decide) fun a7 H7 n7 e7 h7 => ?_
      walk_at "g"
      intro a8 H8 n8 e8 h8
      refine g_catT (SqT.of (e8 _ _ h7)) (SqT.of h8) (fun z => by cases z) (fun z => by cases z) (show 2 + 7 ≤ sizeLine by decide) fun a9 H9 n9 e9 h9 => ?_
      walk_at "g"
      intro a10 H10 n10 e10 h10
      walk_at "g"
      intro a11 H11 n11 e11 h11
      refine g_catT (SqT.of (e11 _ _ h10)) (SqT.of h11) (fun z => by cases z) (fun z => by cases z) (show 3 + 1 ≤ sizeLine by decide) fun a12 H12 n12 e12 h12 => ?_
      walk_at "g"
      intro a13 H13 n13 e13 h13
      refine g_catT (SqT.of (e13 _ _ h12)) (SqT.of h13) (fun z => by cases z) (fun z => by cases z) (show 4 + 5 ≤ sizeLine by decide) fun a14 H14 n14 e14 h14 => ?_
      walk_at "g"
      intro a15 H15 n15 e15 h15
      walk_at "g"
      intro a16 H16 n16 e16 h16
      refine g_catT (SqT.of (e16 _ _ h15)) (SqT.of h16) (fun z => by cases z) (fun z => by cases z) (show 7 + 2 ≤ sizeLine by decide) fun a17 H17 n17 e17 h17 => ?_
      walk_at "g"
      intro a18 H18 n18 e18 h18
      walk_at "g"
      have z1 := ((((((((e10.trans e11).trans e12).trans e13).trans e14).trans e15).trans e16).trans e17).trans e18)
      have z2 := (((e15.trans e16).trans e17).trans e18)
      have z0 := (((((((((((((e5.trans e6).trans e7).trans e8).trans e9).trans e10).trans e11).trans e12).trans e13).trans e14).trans e15).trans e16).trans e17).trans e18)
      let B1 : LeafD := ⟨L.number, place, L.deeds, L.giver, L.holder, L.since, L.til, L.passes, L.above⟩
      let B2 : LeafD := ⟨L.number, L.room, L.deeds, keeper, L.holder, L.since, L.til, L.passes, L.above⟩
      let B3 : LeafD := ⟨L.number, L.room, L.deeds, L.giver, L.holder, L.since, L.til, W.passes, L.above⟩
      refine ⟨a18, [(a9, B1), (a14, B2), (a17, B3)], rfl, h18, fun x hx => ?_, by simp, z0, ?_⟩
      · simp only [List.mem_cons, List.not_mem_nil, or_false] at hx
        rcases hx with rfl | rfl | rfl
        · exact ⟨⟨d, z1 _ _ h9, z0 _ _ hD4⟩, bey ⟨hL.n0, hL.n1, pl1, hL.ds, hL.gv, hL.hd, hL.ne, hL.s0, hL.su, hL.u1, hL.p0, hL.p1, hL.ab⟩ fun z => pl2 (((lw_iff B1 W).mp z).1.symm.trans hB.room.symm)⟩
        · exact ⟨⟨d, z2 _ _ h14, z0 _ _ hD4⟩, bey ⟨hL.n0, hL.n1, hL.rm, hL.ds, kp1, hL.hd, kp3, hL.s0, hL.su, hL.u1, hL.p0, hL.p1, hL.ab⟩ fun z => kp2 (((lw_iff B2 W).mp z).2.2.2.2.2.symm.trans hB.giver.symm)⟩
        · exact ⟨⟨d, e18 _ _ h17, z0 _ _ hD4⟩, bey ⟨hL.n0, hL.n1, hL.rm, hL.ds, hL.gv, hL.hd, hL.ne, hL.s0, hL.su, hL.u1, hW.p0, hW.p1, hL.ab⟩ fun z => Int.lt_irrefl W.passes ((lw_iff B3 W).mp z).2.2.2.2.1⟩
      · cases q : H4 a18 with
        | none => rfl
        | some w =>
          have q2 := (((((((((((((e5.trans e6).trans e7).trans e8).trans e9).trans e10).trans e11).trans e12).trans e13).trans e14).trans e15).trans e16).trans e17)) _ _ q
          rw [n18] at q2
          cases q2
    have hsu := hL.su
    have hws := hB.since
    have hwt := hB.til
    have hu1 := hW.u1
    rintro σ' H5 ⟨p, rs, rfl, hp, hall, hlen, e5, np⟩
    have ht5 := e5 _ _ ht4
    have ho5 := e5 _ _ ho4
    have hD5 := e5 _ _ hD4
    have hE5 := e5 _ _ hE4
    refine ⟨fun σ' H' => ∃ (p : Addr) (rs : List (Addr × LeafD)), σ' = [some (.ref t), some (.ref o), some (.int L.number), some (.str L.room), some (.ref d), some (.str L.giver), some (.str L.holder), some (.int L.since), some (.int L.til), some (.int L.passes),
      some (aboveV L.above), some (.str place), some (.str keeper), none, some (.ref p)] ∧ H' p = some (.lst (rs.map fun x => V.ref x.1)) ∧ (∀ x ∈ rs, LeafAt H' x.1 x.2 ∧ Beyond W x.2) ∧ rs.length ≤ 4 ∧ Ex H4 H' ∧ H4 p = none, ?_, ?_⟩
    · walk_at "g"
      refine ite2 (fun hq => ?_) (fun hq => ?_)
      · have c : 0 < W.since := by simpa using hq
        walk_at "g"
        refine g_BM ?_
        walk_at "g"
        refine ⟨.inl ⟨rfl, _, SqL.of hp⟩, ?_⟩
        walk_at "g"
        intro a6 H6 n6 e6 h6
        walk_at "g"
        intro a7 H7 n7 e7 h7
        refine g_catT (SqT.of (e7 _ _ h6)) (SqT.of h7) (fun z => by cases z) (fun z => by cases z) (show 5 + 1 ≤ sizeLine by decide) fun a8 H8 n8 e8 h8 => ?_
        walk_at "g"
        intro a9 H9 n9 e9 h9
        refine g_catT (SqT.of (e9 _ _ h8)) (SqT.of h9) (fun z => by cases z) (fun z => by cases z) (show 6 + 3 ≤ sizeLine by decide) fun a10 H10 n10 e10 h10 => ?_
        walk_at "g"
        have z0 := ((((e6.trans e7).trans e8).trans e9).trans e10)
        have hpz := z0 _ _ hp
        let B : LeafD := ⟨L.number, L.room, L.deeds, L.giver, L.holder, W.since - 1, L.til, L.passes, L.above⟩
        refine ⟨p, _, _, rfl, rfl, hpz, ?_, ?_⟩
        · rw [List.length_map]
          exact Nat.lt_of_le_of_lt hlen (by decide)
        walk_at "g"
        refine ⟨p, rs ++ [(a10, B)], rfl, ?_, fun x hx => ?_, ?_, (e5.trans z0).mut np, np⟩
        · rw [upd_same]
          simp
        · rcases List.mem_append.mp hx with hx | hx
          · exact ⟨((hall x hx).1.ex z0).updL hpz, (hall x hx).2⟩
          · obtain rfl := List.mem_singleton.mp hx
            exact ⟨LeafAt.updL ⟨d, h10, z0 _ _ hD5⟩ hpz, bey ⟨hL.n0, hL.n1, hL.rm, hL.ds, hL.gv, hL.hd, hL.ne, (show 0 ≤ W.since - 1 by omega), (show W.since - 1 < L.til by omega), hL.u1, hL.p0, hL.p1, hL.ab⟩ fun z => by have q : W.since ≤ W.since - 1 := ((lw_iff B W).mp z).2.2.1; omega⟩
        · rw [List.length_append, List.length_singleton]
          omega
      · walk_at "g"
        exact ⟨p, rs, rfl, hp, hall, by omega, e5, np⟩
    clear ht5 ho5 hD5 hE5 hp hall hlen np e5
    rintro σ' H5 ⟨p, rs, rfl, hp, hall, hlen, e5, np⟩
    have ht5 := e5 _ _ ht4
    have ho5 := e5 _ _ ho4
    have hD5 := e5 _ _ hD4
    have hE5 := e5 _ _ hE4
    refine ⟨fun σ' H' => ∃ (p : Addr) (rs : List (Addr × LeafD)), σ' = [some (.ref t), some (.ref o), some (.int L.number), some (.str L.room), some (.ref d), some (.str L.giver), some (.str L.holder), some (.int L.since), some (.int L.til), some (.int L.passes),
      some (aboveV L.above), some (.str place), some (.str keeper), none, some (.ref p)] ∧ H' p = some (.lst (rs.map fun x => V.ref x.1)) ∧ (∀ x ∈ rs, LeafAt H' x.1 x.2 ∧ Beyond W x.2) ∧ rs.length ≤ 5 ∧ Ex H4 H' ∧ H4 p = none, ?_, ?_⟩
    · walk_at "g"
      refine ite2 (fun hq => ?_) (fun hq => ?_)
      · have c : W.til < 1000000 := by
          have t6 : (10 : Int) ^ Int.toNat 6 = 1000000 := by decide
          rw [t6] at hq
          simpa using hq
        walk_at "g"
        refine g_BM ?_
        walk_at "g"
        refine ⟨.inl ⟨rfl, _, SqL.of hp⟩, ?_⟩
        walk_at "g"
        intro a6 H6 n6 e6 h6
        walk_at "g"
        intro a7 H7 n7 e7 h7
        refine g_catT (SqT.of (e7 _ _ h6)) (SqT.of h7) (fun z => by cases z) (fun z => by cases z) (show 6 + 1 ≤ sizeLine by decide) fun a8 H8 n8 e8 h8 => ?_
        walk_at "g"
        intro a9 H9 n9 e9 h9
        refine g_catT (SqT.of (e9 _ _ h8)) (SqT.of h9) (fun z => by cases z) (fun z => by cases z) (show 7 + 2 ≤ sizeLine by decide) fun a10 H10 n10 e10 h10 => ?_
        walk_at "g"
        have z0 := ((((e6.trans e7).trans e8).trans e9).trans e10)
        have hpz := z0 _ _ hp
        let B : LeafD := ⟨L.number, L.room, L.deeds, L.giver, L.holder, L.since, W.til + 1, L.passes, L.above⟩
        refine ⟨p, _, _, rfl, rfl, hpz, ?_, ?_⟩
        · rw [List.length_map]
          exact Nat.lt_of_le_of_lt hlen (by decide)
        walk_at "g"
        refine ⟨p, rs ++ [(a10, B)], rfl, ?_, fun x hx => ?_, ?_, (e5.trans z0).mut np, np⟩
        · rw [upd_same]
          simp
        · rcases List.mem_append.mp hx with hx | hx
          · exact ⟨((hall x hx).1.ex z0).updL hpz, (hall x hx).2⟩
          · obtain rfl := List.mem_singleton.mp hx
            exact ⟨LeafAt.updL ⟨d, h10, z0 _ _ hD5⟩ hpz, bey ⟨hL.n0, hL.n1, hL.rm, hL.ds, hL.gv, hL.hd, hL.ne, hL.s0, (show L.since < W.til + 1 by omega), (show W.til + 1 ≤ 1000000 by omega), hL.p0, hL.p1, hL.ab⟩ fun z => by have q : W.til + 1 ≤ W.til := ((lw_iff B W).mp z).2.2.2.1; omega⟩
        · rw [List.length_append, List.length_singleton]
          omega
      · walk_at "g"
        exact ⟨p, rs, rfl, hp, hall, by omega, e5, np⟩
    clear ht5 ho5 hD5 hE5 hp hall hlen np e5
    rintro σ' H5 ⟨p, rs, rfl, hp, hall, hlen, e5, np⟩
    have ht5 := e5 _ _ ht4
    have ho5 := e5 _ _ ho4
    have hD5 := e5 _ _ hD4
    have hE5 := e5 _ _ hE4
    refine ⟨fun σ' H' => ∃ (p : Addr) (rs : List (Addr × LeafD)), σ' = [some (.ref t), some (.ref o), some (.int L.number), some (.str L.room), some (.ref d), some (.str L.giver), some (.str L.holder), some (.int L.since), some (.int L.til), some (.int L.passes),
      some (aboveV L.above), some (.str place), some (.str keeper), none, some (.ref p)] ∧ H' p = some (.lst (rs.map fun x => V.ref x.1)) ∧ (∀ x ∈ rs, LeafAt H' x.1 x.2 ∧ Beyond W x.2) ∧ rs.length ≤ 6 ∧ Ex H4 H' ∧ H4 p = none, ?_, ?_⟩
    · walk_at "g"
      refine ⟨e, _, rfl, .inr (SqT.of hE5), ?_⟩
      walk_at "g"
      refine ite2 (fun hq => ?_) (fun hq => ?_)
      · have c : W.deeds.length = 1 := by
          have : ((W.deeds.map V.str).length : Int) = 1 := by simpa using hq
          rw [List.length_map] at this
          omega
        walk_at "g"
        refine g_BM ?_
        walk_at "g"
        refine ⟨.inl ⟨rfl, _, SqL.of hp⟩, ?_⟩
        walk_at "g"
        intro a6 H6 n6 e6 h6
        walk_at "g"
        intro a7 H7 n7 e7 h7
        walk_at "g"
        intro a8 H8 n8 e8 h8
        refine g_catT (SqT.of (e8 _ _ (e7 _ _ h6))) (SqT.of h8) (fun z => by cases z) (fun z => by cases z) (show 2 + 1 ≤ sizeLine by decide) fun a9 H9 n9 e9 h9 => ?_
        walk_at "g"
        intro a10 H10 n10 e10 h10
        refine g_catT (SqT.of (e10 _ _ h9)) (SqT.of h10) (fun z => by cases z) (fun z => by cases z) (show 3 + 6 ≤ sizeLine by decide) fun a11 H11 n11 e11 h11 => ?_
        walk_at "g"
        have z0 := (((((e6.trans e7).trans e8).trans e9).trans e10).trans e11)
        have hpz := z0 _ _ hp
        let B : LeafD := ⟨L.number, L.room, [dLook, dSet], L.giver, L.holder, L.since, L.til, L.passes, L.above⟩
        refine ⟨p, _, _, rfl, rfl, hpz, ?_, ?_⟩
        · rw [List.length_map]
          exact Nat.lt_of_le_of_lt hlen (by decide)
        walk_at "g"
        refine ⟨p, rs ++ [(a11, B)], rfl, ?_, fun x hx => ?_, ?_, (e5.trans z0).mut np, np⟩
        · rw [upd_same]
          simp
        · rcases List.mem_append.mp hx with hx | hx
          · exact ⟨((hall x hx).1.ex z0).updL hpz, (hall x hx).2⟩
          · obtain rfl := List.mem_singleton.mp hx
            exact ⟨LeafAt.updL ⟨a7, h11, ((((e8.trans e9).trans e10).trans e11)) _ _ h7⟩ hpz, bey ⟨hL.n0, hL.n1, hL.rm, .inr (.inr rfl), hL.gv, hL.hd, hL.ne, hL.s0, hL.su, hL.u1, hL.p0, hL.p1, hL.ab⟩ fun z => by
                have q : ([dLook, dSet].all fun d => W.deeds.any (· == d)) = true := ((lw_iff B W).mp z).2.1
                rcases hW.ds with w | w | w
                · rw [w] at q
                  exact absurd q (by decide +kernel)
                · rw [w] at q
                  exact absurd q (by decide +kernel)
                · rw [w] at c
                  exact absurd c (by decide)⟩
        · rw [List.length_append, List.length_singleton]
          omega
      · walk_at "g"
        exact ⟨p, rs, rfl, hp, hall, by omega, e5, np⟩
    clear ht5 ho5 hD5 hE5 hp hall hlen np e5
    rintro σ' H5 ⟨p, rs, rfl, hp, hall, hlen, e5, np⟩
    walk_at "g"
    exact k p rs H5 hp hall hlen (e04.trans e5)

end
end K10

namespace K10
open PySem PySem.Spec PyProof.Rows L2 Lk Evl









local macro_rules | `(tactic| walk_at "hx") => `(tactic| first
  | exact UA.ix (by assumption)
  | exact UA.ix (UA.ex' (by assumption) (by assumption))
  | exact UA.ix (UA.ex' (by assumption) (UA.ex' (by assumption) (by assumption)))
  | exact UA.ix (UA.ex' (by assumption) (UA.ex' (by assumption) (UA.ex' (by assumption) (by assumption)))))
local macro_rules | `(tactic| walk_at "tr1") => `(tactic| first
  | ((with_reducible show SqL _ _ _ _); first
    | assumption
    | exact .inl (.inl (by assumption))
    | with_reducible refine' ex_l (by assumption) ?_
    | (with_reducible refine' kp_l (by assumption) ?hx ?_); (case hx => walk_at "hx"))
  | ((with_reducible show SqT _ _ _ _); first
    | assumption
    | exact .inl (.inl (by assumption))
    | with_reducible refine' ex_t (by assumption) ?_
    | (with_reducible refine' kp_t (by assumption) ?hx ?_); (case hx => walk_at "hx"))
  | ((with_reducible show _ = some _); first
    | assumption
    | with_reducible refine' ex_lst (by assumption) ?_
    | (with_reducible refine' kp_lst (by assumption) ?hx ?_); (case hx => walk_at "hx")
    | (with_reducible refine' kp_tup (by assumption) ?hx ?_); (case hx => walk_at "hx")
    | (with_reducible refine' kp_dK (by assumption) ?hx ?_); (case hx => walk_at "hx")))
local macro_rules | `(tactic| walk_at "tr") => `(tactic| (repeat (any_goals (walk_at "tr1"))); done)
local macro_rules | `(tactic| walk_at "ix") => `(tactic| first
  | (with_reducible show rIxL _ _ _ _ _); (refine' g_ixLm ?hs ?h0 ?h1 ?hq); (case hs => walk_at "tr"); (case h0 => omega); (case h1 => (simp only [List.length_cons, List.length_nil]; omega)); (case' hq => skip)
  | (with_reducible show rIxT _ _ _ _ _); (refine' g_ixTm ?hs ?h0 ?h1 ?hq); (case hs => walk_at "tr"); (case h0 => omega); (case h1 => (simp only [List.length_cons, List.length_nil]; omega)); (case' hq => skip)
  | (with_reducible show rIxS _ _ _ _); (refine' g_ixSm ?hs ?h0 ?h1 ?hq); (case hs => decide +kernel); (case h0 => omega); (case h1 => exact Int.lt_of_lt_of_le (by assumption) (by decide +kernel)); (case' hq => skip))
local macro_rules | `(tactic| walk_at "g1") => `(tactic| first
  | (with_reducible show tVar _ _ _ _); refine g_var rfl ?_
  | with_reducible refine g_c ?_
  | (with_reducible refine g_seq ?_); (try dsimp only [List.set_cons_succ, List.set_cons_zero])
  | with_reducible refine g_op ?_
  | with_reducible refine g_un ?_
  | with_reducible refine g_I0 ?_
  | with_reducible refine g_U ?_
  | (with_reducible refine g_Eq ?hs ?_); (case hs => rfl)
  | (with_reducible refine g_Ne ?hs ?_); (case hs => rfl)
  | with_reducible refine g_test ?_
  | with_reducible refine g_B ?_
  | with_reducible refine g_ifS ?_
  | with_reducible refine g_asg ?_
  | with_reducible refine g_asgG ?_
  | with_reducible refine g_ret ?_
  | with_reducible refine g_retU ?_
  | with_reducible refine g_drop ?_
  | with_reducible refine g_next ?_
  | with_reducible refine g_name ?_
  | with_reducible refine g_and ?_
  | with_reducible refine g_or ?_
  | with_reducible refine g_not ?_
  | with_reducible refine g_andV ?_
  | with_reducible refine g_orV ?_
  | with_reducible refine g_notV ?_
  | with_reducible refine g_if ?_
  | with_reducible refine g_nil ?_
  | with_reducible refine g_cons ?_
  | with_reducible refine g_call ?_
  | with_reducible refine g_callKw ?_
  | with_reducible refine g_callS ?_
  | with_reducible refine g_cb ?_
  | with_reducible refine g_tup ?_
  | with_reducible refine g_lst ?_
  | with_reducible refine g_ipI ?_
  | with_reducible refine g_sub ?_
  | with_reducible refine g_augS ?_
  | (with_reducible show tAug _ _ _ _ _ _); refine g_aug rfl ?_
  | with_reducible refine g_M1 ?_
  | with_reducible refine g_M0 ?_
  | with_reducible refine g_yes ?_
  | with_reducible refine g_sl ?_
  | with_reducible refine g_nopart ?_
  | with_reducible refine g_part ?_
  | with_reducible refine g_lc ?_
  | with_reducible refine g_join ?_
  | (with_reducible show gTup _ _ _ (V.ref _) _ _ _); (refine' ⟨_, _, rfl, ?hs, ?hl, ?hm⟩); (case hs => walk_at "tr"); (case hl => rfl); (case' hm => skip)
  | (with_reducible show gCons _ _ _ _ _ _); (refine ⟨_, _, rfl, ?_⟩)
  | (with_reducible show gNil _ _ _ _); (refine ⟨rfl, ?_⟩)
  | (with_reducible show V.non = V.non ∧ _); (refine ⟨rfl, ?_⟩)
  | (with_reducible show rSlT _ _ _ _ _ _); (refine' g_slT ?hs ?hn ?hy ?hm); (case hs => walk_at "tr"); (case hn => first | exact fun z => absurd z.2 (Nat.ne_of_beq_eq_false rfl) | exact fun z => absurd z.1 (Nat.ne_of_beq_eq_false rfl)); (case hy => rfl); (case' hm => skip)
  | (with_reducible show rSlL _ _ _ _ _ _); (refine' g_slL ?hs ?hm); (case hs => walk_at "tr"); (case' hm => skip)
  | with_reducible refine g_js ?_
  | with_reducible refine g_js0 ?_
  | with_reducible refine g_fmt ?_
  | with_reducible refine g_for ?_
  | with_reducible refine g_iR1 ?_
  | with_reducible refine g_iL ?_
  | with_reducible refine g_iT ?_
  | with_reducible refine g_iE ?_
  | with_reducible refine g_iZ ?_
  | (with_reducible show ∃ k, V.bl _ = V.bl k ∧ _); refine ⟨_, rfl, ?_⟩
  | (with_reducible show ∃ k, V.int _ = V.int k ∧ _); refine ⟨_, rfl, ?_⟩
  | (with_reducible show (∃ a, V.str _ = V.str a) ∧ _); refine ⟨⟨_, rfl⟩, ?_⟩
  | (with_reducible show ∃ j : Int, [V.int _] = [V.int j] ∧ -(2 ^ 62) ≤ j ∧ _); (refine ⟨_, rfl, ?h0, ?h1, ?hm⟩); (case h0 => omega); (case h1 => omega); (case' hm => skip)
  | (with_reducible show ∃ i j : Int, [V.int _, V.int _] = [V.int i, V.int j] ∧ _); (refine ⟨_, _, rfl, ?_⟩)
  | (with_reducible show (∃ i : Int, [V.bl _] = [V.int i] ∧ _) ∨ _); (refine .inr ⟨_, rfl, ?_⟩)
  | (with_reducible show (∃ i : Int, [V.int _] = [V.int i] ∧ _) ∨ _); (refine .inl ⟨_, rfl, ?_⟩)
  | (with_reducible show ∃ a, V.ref _ = V.ref a ∧ (∃ xs, SqL _ _ a xs) ∧ _); (refine' ⟨_, rfl, ⟨_, ?hs⟩, ?hm⟩); (case hs => walk_at "tr"); (case' hm => skip)
  | (with_reducible show ∃ a, V.ref _ = V.ref a ∧ (∃ xs, SqT _ _ a xs) ∧ _); (refine' ⟨_, rfl, ⟨_, ?hs⟩, ?hm⟩); (case hs => walk_at "tr"); (case' hm => skip)
  | (with_reducible show ∃ a xs, [V.ref _] = [V.ref a] ∧ SqL _ _ a xs ∧ _); (refine' ⟨_, _, rfl, ?hs, ?hm⟩); (case hs => walk_at "tr"); (case' hm => skip)
  | (with_reducible show rIxL _ _ _ _ _); (refine' g_ixL ?hs ?ha ?hm); (case hs => walk_at "tr"); (case ha => rfl); (case' hm => skip)
  | (with_reducible show rIxT _ _ _ _ _); (refine' g_ixT ?hs ?ha ?hm); (case hs => walk_at "tr"); (case ha => rfl); (case' hm => skip)
  | (with_reducible show rGetL _ _ _ _ _); (refine' g_getL ?hs ?h0 ?ha ?hm); (case hs => walk_at "tr"); (case h0 => decide); (case ha => rfl); (case' hm => skip)
  | (with_reducible refine g_newL ?hz ?_); (case hz => exact small_sz (Nat.le_of_ble_eq_true rfl))
  | (with_reducible refine g_newT ?hz ?_); (case hz => exact small_sz (Nat.le_of_ble_eq_true rfl))
  | (with_reducible refine g_I ?hc ?_); (case hc => first
      | exact ⟨by omega, by omega⟩ | exact Or.inl ⟨by omega, by omega⟩ | exact Or.inr ⟨by omega, by omega⟩ | ((with_reducible show (0 : Int) < _); omega) | exact ⟨by omega, by omega, by omega⟩ | decide))
local macro_rules | `(tactic| walk_at "g") => `(tactic| repeat (walk_at "g1"))

section
variable {P : Program} {w : World} {K : PySem.W.Frag} {mg : Str → Option Value} {base : Heap}



theorem below_lw {L W : LeafD} (h : Below W L) : lwB L W = true := by
  rw [lw_iff]
  exact ⟨h.room.symm, h.deeds, h.since, h.til, h.passes, h.giver.symm⟩
/-- what holds between a leave and one further up -/
structure Under (W L : LeafD) : Prop where
  room : L.room = W.room
  deeds : (L.deeds.all fun y => W.deeds.any (· == y)) = true
  since : W.since ≤ L.since
  til : L.til ≤ W.til
  passes : L.passes < W.passes
theorem Below.under {W L : LeafD} (h : Below W L) : Under W L := ⟨h.room, h.deeds, h.since, h.til, h.passes⟩
theorem sub_trans {a b c : List Str} (h1 : (a.all fun y => b.any (· == y)) = true) (h2 : (b.all fun y => c.any (· == y)) = true) : (a.all fun y => c.any (· == y)) = true := by
  refine List.all_eq_true.mpr fun y hy => ?_
  obtain ⟨z, hz, e⟩ := List.any_eq_true.mp (List.all_eq_true.mp h1 y hy)
  have e' : z = y := by simpa using e
  subst e'
  exact List.all_eq_true.mp h2 z hz
theorem Under.trans {A B C : LeafD} (h : Under A B) (g : Under B C) : Under A C := ⟨g.room.trans h.room, sub_trans g.deeds h.deeds, Int.le_trans h.since g.since, Int.le_trans g.til h.til, Int.lt_trans g.passes h.passes⟩
theorem chain_next : ∀ {rs : List (Addr × LeafD)} {i : Nat} {a b : Addr × LeafD}, Chain rs → rs[i]? = some a → rs[i + 1]? = some b → Below a.2 b.2
  | [], _, _, _, _, h, _ => by cases h
  | [x], i, _, _, _, _, h => by simp at h
  | x :: y :: r, 0, a, b, hc, h, g => by
    obtain rfl : x = a := by simpa using h
    obtain rfl : y = b := by simpa using g
    exact hc.1
  | x :: y :: r, i + 1, a, b, hc, h, g => chain_next (rs := y :: r) (i := i) hc.2 (by simpa using h) (by simpa using g)
theorem chain_under {rs : List (Addr × LeafD)} (hc : Chain rs) : ∀ {j i : Nat} {a b : Addr × LeafD}, rs[i]? = some a → rs[i + j + 1]? = some b → Under a.2 b.2
  | 0, i, a, b, h, g => (chain_next hc h g).under
  | j + 1, i, a, b, h, g => by
    have hl : i + (j + 1) + 1 < rs.length := (List.getElem?_eq_some_iff.mp g).1
    have hm : rs[i + j + 1]? = some rs[i + j + 1] := List.getElem?_eq_getElem (by omega)
    exact (chain_under hc (j := j) h hm).trans (chain_next hc hm g).under
theorem under_lw {W L : LeafD} (h : Under W L) : lwB L W = decide (W.holder = L.giver) := by
  unfold lwB
  rw [decide_eq_true h.room.symm, h.deeds, decide_eq_true h.since, decide_eq_true h.til, decide_eq_true h.passes] <;> simp
theorem under_no {W L : LeafD} (h : Under W L) : lwB W L = false := Bool.eq_false_iff.mpr fun z => by
  have := ((lw_iff W L).mp z).2.2.2.2.1
  have := h.passes
  omega
def Tb3 (Pn Pd Pw : Addr) (H : Hp) : Prop := H Pn = some (TabO Pn) ∧ H Pd = some (TabO Pd) ∧ H Pw = some (TabO Pw)
def spPair (Pn Pd Pw : Addr) : Sp := fun vs H Q _ => ∃ (p : Addr) (at_ : Nat) (rs : List (Addr × LeafD)), vs = [.ref p, .int at_] ∧ Tb3 Pn Pd Pw H ∧ RowAt H p rs ∧ 1 ≤ at_ ∧ at_ < rs.length ∧ rs.length ≤ 7 ∧ ∀ H2, Ex H H2 → Q (.bl true) H2
theorem ok_pair {Pn Pd Pw : Addr} (T : Txt K mg) (c__law_beyond : Cal P w K mg base 1 "_law_beyond" spBeyond) (c_is_leave : Cal P w K mg base 5 "is_leave" (spLeave Pn Pd)) (c_lies_within : Cal P w K mg base 1 "lies_within" (spWithin Pw)) (A : At K mg "_law_pair_right" s__law_pair_right ["row", "at"]) :
    Cal P w K mg base 6 "_law_pair_right" (spPair Pn Pd Pw) := by
  refine A.of fun f fd F => fn_ok F sc__law_pair_right (fun vs H Q E h => ?_) (fun cdv A outer s H vs Q E hr h => ?_)
  · obtain ⟨p, at_, rs, rfl, _⟩ := h
    rfl
  · obtain ⟨p, at_, rs, rfl, tb, ⟨hp, hall, hch⟩, h1, h2, h7, k⟩ := h
    refine ⟨_, [some (.ref p), some (.int at_), none, none, none], rfl, (pss_cons (ps_set (i := 2) sc__law_pair_right.nd rfl (Or.inl rfl) (pe_ix ix_list (pv 0) (pv 1) (fun _ _ => rfl)))
      (pss_cut (ps_if (PW.pt (pw_or (pt_not (pt_val (pe_c c_is_leave hr (by decide) rfl (pa_cons (pv 2) pa_nil)))) (pw_or1 (pt_not (pt_val (pe_c c_lies_within hr (by decide) rfl (pa_cons (pv 2) (pa_cons (pe_ix ix_list (pv 0) (pe_op op_sub (pv 1) pe_int) (fun _ _ => rfl)) pa_nil))))))))
      (pss_one (ps_ret pe_bl))
      pss_nil)
      (pss_cut (ps_for PassesOwn.never rfl (pi_list (pe_c c__law_beyond hr (by decide) rfl (pa_cons (pv 2) (pa_cons (pe_ix ix_list (pv 0) (pe_op op_sub (pv 1) pe_int) (fun _ _ => rfl)) pa_nil)))) (pg_name (i := 3) sc__law_pair_right.nd rfl (Or.inr rfl))
      (pss_one (ps_if (PW.pt (pw_or (pt_not (pt_val (pe_c c_is_leave hr (by decide) rfl (pa_cons (pv 3) pa_nil)))) (pw_or1 (pt_val (pe_c c_lies_within hr (by decide) rfl (pa_cons (pv 3) (pa_cons (pe_ix ix_list (pv 0) (pe_op op_sub (pv 1) pe_int) (fun _ _ => rfl)) pa_nil)))))))
      (pss_one (ps_ret pe_bl))
      pss_nil)))
      (pss_cons (ps_for PassesOwn.never rfl (pi_list (pe_slice sl_list (pv 0) po_none (po_some (pv 1)))) (pg_name (i := 3) sc__law_pair_right.nd rfl (Or.inr rfl))
      (pss_cons (ps_if (PW.pt (pw_or (pt_cmpR op_lt (pe_ix ix_tup (pv 2) pe_int (fun _ _ => rfl)) (pe_ix ix_tup (pv 3) pe_int (fun _ _ => rfl)) (nomark _)) (pw_or (pt_cmpR op_gt (pe_ix ix_tup (pv 2) pe_int (fun _ _ => rfl)) (pe_ix ix_tup (pv 3) pe_int (fun _ _ => rfl)) (nomark _)) (pw_or (pt_cmpR op_ge (pe_ix ix_tup (pv 2) pe_int (fun _ _ => rfl)) (pe_ix ix_tup (pv 3) pe_int (fun _ _ => rfl)) (nomark _)) (pw_or1 (pt_val (pe_c c_lies_within hr (by decide) rfl (pa_cons (pv 3) (pa_cons (pv 2) pa_nil)))))))))
      (pss_one (ps_ret pe_bl))
      pss_nil)
      (pss_one (ps_if (PW.pt (pw_or (pt_cmpR (op_neD hr.units) (pe_lc (own := [("deed", 4)]) (g := gName 4) (tt := _) rfl sc__law_pair_right.nd (pi_tup (pe_ix ix_tup (pv 2) pe_int (fun _ _ => rfl))) (blkOk_by (own := [("deed", 4)]) (N := ["row", "at", "leaf", "one", "deed"]) (sc := defScope s__law_pair_right) (by decide +kernel)) (fun _ _ _ _ _ => (pg_name (i := 4) sc__law_pair_right.nd rfl (Or.inl rfl))) (fun _ _ _ _ _ => (pts_one (pt_cmpR (op_notIn_seqK (K := K) rfl) (pv 4) (pe_ix (ix_tupK (K := K) rfl) (pv 3) pe_int (fun _ _ => rfl)) (by rfl)))) (fun _ _ _ _ _ => (pv 4))) (pe_lst pa_nil) (nomark _)) (pw_or1 (pt_cmpR op_ne (pe_c c_lies_within hr (by decide) rfl (pa_cons (pv 2) (pa_cons (pv 3) pa_nil))) (pe_cmpR op_eq (pe_ix ix_tup (pv 3) pe_int (fun _ _ => rfl)) (pe_ix ix_tup (pv 2) pe_int (fun _ _ => rfl)) (nomark _)) (nomark _)))))
      (pss_one (ps_ret pe_bl))
      pss_nil))))
      (pss_one (ps_ret pe_bl)))))), ?_⟩
    try dsimp only [cxOf]
    walk_at "g"
    have hx2 : rs[at_]? = some rs[at_] := List.getElem?_eq_getElem h2
    have hx1 : rs[at_ - 1]? = some rs[at_ - 1] := List.getElem?_eq_getElem (by omega)
    generalize hl : rs[at_] = lf at hx2
    generalize hu : rs[at_ - 1] = up at hx1
    have hB : Below up.2 lf.2 := chain_next hch hx1 (by rw [Nat.sub_add_cancel h1]; exact hx2)
    obtain ⟨hTl, hOl⟩ := hall lf (List.mem_of_getElem? hx2)
    obtain ⟨hTu, hOu⟩ := hall up (List.mem_of_getElem? hx1)
    have i2 : atI (rs.map fun x => V.ref x.1) (at_ : Int) = some (.ref lf.1) := atI_nat (by rw [List.getElem?_map, hx2] <;> rfl)
    have i1 : atI (rs.map fun x => V.ref x.1) ((at_ : Int) - 1) = some (.ref up.1) := by
      have e : (at_ : Int) - 1 = ((at_ - 1 : Nat) : Int) := by omega
      rw [e]
      exact atI_nat (by rw [List.getElem?_map, hx1] <;> rfl)
    clear hl hu
    refine g_ixL (SqL.of hp) i2 ?_
    walk_at "g"
    refine ⟨fun σ' H' => σ' = [some (.ref p), some (.int at_), some (.ref lf.1), none, none] ∧ H' = H, ?_, ?_⟩
    · walk_at "g"
      refine ⟨lf.1, lf.2, rfl, tb.1, tb.2.1, hTl, hOl, ⟨_, rfl, ?_⟩⟩
      refine ite_ff ?_
      walk_at "g"
      refine g_ixL (SqL.of hp) i1 ?_
      walk_at "g"
      refine ⟨lf.1, up.1, lf.2, up.2, rfl, tb.2.2, hTl, hTu, ⟨_, rfl, ?_⟩⟩
      rw [below_lw hB]
      refine ite_ff ?_
      walk_at "g"
      exact ⟨rfl, rfl⟩
    rintro σ' H0 ⟨rfl, rfl⟩
    refine ⟨fun σ' H' => ∃ x3, σ' = [some (.ref p), some (.int at_), some (.ref lf.1), x3, none] ∧ Ex H0 H', ?_, ?_⟩
    · walk_at "g"
      refine g_ixL (SqL.of hp) i1 ?_
      walk_at "g"
      refine ⟨lf.1, up.1, lf.2, up.2, rfl, hTl, hTu, hOl, hOu, hB, fun q bs H1 hq hbs hl6 e1 => ?_⟩
      walk_at "g"
      refine for_list (xs := bs.map fun x => V.ref x.1) (fun j σ H' => ∃ x3, σ = [some (.ref p), some (.int at_), some (.ref lf.1), x3, none] ∧ H' = H1) ⟨_, rfl, rfl⟩ ?_ ?_ ?_
      · rintro j σ H' _ ⟨y3, rfl, rfl⟩
        exact SqL.of hq
      · rintro j x σ H' hx ⟨y3, rfl, rfl⟩
        obtain ⟨b, hb, rfl⟩ : ∃ b ∈ bs, x = V.ref b.1 := by
          have m := List.mem_of_getElem? hx
          obtain ⟨b, hb, e⟩ := List.mem_map.mp m
          exact ⟨b, hb, e.symm⟩
        obtain ⟨hTb, hBb⟩ := hbs b hb
        walk_at "g"
        refine ⟨b.1, b.2, rfl, e1 _ _ tb.1, e1 _ _ tb.2.1, hTb, hBb.1, ⟨_, rfl, ?_⟩⟩
        refine ite_ff ?_
        walk_at "g"
        refine g_ixL (SqL.of (e1 _ _ hp)) i1 ?_
        walk_at "g"
        refine ⟨b.1, up.1, b.2, up.2, rfl, e1 _ _ tb.2.2, hTb, hTu.ex e1, ⟨_, rfl, ?_⟩⟩
        rw [hBb.2]
        refine ite_ff ?_
        walk_at "g"
        exact ⟨_, rfl, rfl⟩
      · rintro σ H' ⟨y3, rfl, rfl⟩
        exact ⟨_, rfl, e1⟩
    rintro σ' H1 ⟨x3, rfl, e1⟩
    walk_at "g"
    intro q H2 nq e2 hq
    have e12 := e1.trans e2
    have ecut : cutV (rs.map fun x => V.ref x.1) none (some (at_ : Int)) = (rs.take at_).map fun x => V.ref x.1 := by
      have a1 : HT.sIx (rs.map fun x => V.ref x.1).length 0 none = 0 := rfl
      have a2 : HT.sIx (rs.map fun x => V.ref x.1).length (rs.map fun x => V.ref x.1).length (some (at_ : Int)) = at_ := by
        rw [List.length_map]
        unfold HT.sIx
        simp
        split <;> omega
      unfold cutV
      rw [a1, a2, List.drop_zero, Nat.sub_zero, List.map_take]
    rw [ecut] at hq
    refine ⟨q, rfl, ⟨_, SqL.of hq⟩, ?_⟩
    refine for_list (xs := (rs.take at_).map fun x => V.ref x.1) (fun j σ H' => ∃ x3 , σ = [some (.ref p), some (.int at_), some (.ref lf.1), x3, none] ∧ Ex H2 H') ⟨_, rfl, Ex.refl _⟩ ?_ ?_ ?_
    · rintro j σ H' _ ⟨y3, rfl, e3⟩
      exact SqL.of (e3 _ _ hq)
    · rintro j x σ H3 hx ⟨y3, rfl, e3⟩
      have e03 := e12.trans e3
      have hxl := (List.getElem?_eq_some_iff.mp hx).1
      rw [List.length_map, List.length_take] at hxl
      have hj : j < at_ := by omega
      have hb : rs[j]? = some rs[j] := List.getElem?_eq_getElem (by omega)
      rw [List.getElem?_map, List.getElem?_take, if_pos hj, hb] at hx
      generalize rs[j] = b at hb hx
      obtain rfl : V.ref b.1 = x := by simpa using hx
      obtain ⟨hTb, hOb⟩ := hall b (List.mem_of_getElem? hb)
      have hU : Under b.2 lf.2 := chain_under hch (j := at_ - j - 1) hb (by rw [show j + (at_ - j - 1) + 1 = at_ by omega]; exact hx2)
      have hTb3 := hTb.ex e03
      have hTl3 := hTl.ex e03
      obtain ⟨db, hb3, hDb⟩ := hTb.ex e03
      obtain ⟨dl, hl3, hDl⟩ := hTl.ex e03
      unfold LeafD.vs at hb3 hl3
      have u1 := hU.since
      have u2 := hU.til
      have u3 := hU.passes
      walk_at "g"
      rw [if_neg (by simpa using u1)]
      walk_at "g"
      rw [if_neg (by simpa using u2)]
      walk_at "g"
      rw [if_neg (by simpa using u3)]
      walk_at "g"
      refine ⟨b.1, lf.1, b.2, lf.2, rfl, e03 _ _ tb.2.2, hTb3, hTl3, ⟨_, rfl, ?_⟩⟩
      rw [under_no hU]
      refine ite_ff ?_
      walk_at "g"
      intro Dl nD
      refine lcT (j := 4) (fun v => !inV v (b.2.deeds.map V.str)) id ?_ nD (SqT.of hDl) ?_ ?_ ?_
      · rw [List.length_map]
        rcases hOl.ds with z | z | z <;> rw [z] <;> decide
      · intro x hx4 H4 R e4 r
        obtain ⟨y, hy, rfl⟩ := List.mem_map.mp hx4
        walk_at "g"
        refine ⟨db, _, rfl, .inr (SqT.of (e4 _ _ hDb)), rfl, flat_strs _, ?_⟩
        walk_at "g"
        exact r
      · intro x hx4 H4 R e4 r
        walk_at "g"
        exact r
      · intro H4 e4 h4
        have h4' : H4 Dl = some (.lst ([] : List V)) := by
          have z : (lf.2.deeds.map V.str).filter (fun v => !inV v (b.2.deeds.map V.str)) = [] := by
            rw [List.filter_eq_nil_iff]
            intro v hv
            obtain ⟨y, hy, rfl⟩ := List.mem_map.mp hv
            rw [inV_strs, List.all_eq_true.mp hU.deeds y hy]
            decide
          rw [h4, z] <;> rfl
        walk_at "g"
        intro q2 H5 n5 e5 h5
        walk_at "g"
        refine ⟨_, _, .lst (SqL.of (e5 _ _ h4')) .nil, .lst (SqL.of h5) .nil, by decide +kernel, by decide +kernel, ?_⟩
        rw [show (!PyData.eqv (.list []) (.list [])) = false by decide +kernel]
        refine ⟨_, rfl, ?_⟩
        refine ite_ff ?_
        have e35 := e4.trans e5
        walk_at "g"
        refine ⟨lf.1, b.1, lf.2, b.2, rfl, e35 _ _ (e03 _ _ tb.2.2), hTl3.ex e35, hTb3.ex e35, ?_⟩
        walk_at "g"
        have e9 : decide (V.str b.2.holder = V.str lf.2.giver) = decide (b.2.holder = lf.2.giver) := by
          by_cases z : b.2.holder = lf.2.giver
          · rw [decide_eq_true z, decide_eq_true (by rw [z])]
          · rw [decide_eq_false z, decide_eq_false (fun q => z (by injection q))]
        rw [under_lw hU, e9, decide_eq_true rfl]
        refine iteF ?_
        walk_at "g"
        exact ⟨_, rfl, e3.trans e35⟩
    · rintro σ H3 ⟨y3, rfl, e3⟩
      walk_at "g"
      exact k H3 (e12.trans e3)

end
end K10

namespace K10
open PySem PySem.Spec PyProof.Rows L2 Lk Evl









local macro_rules | `(tactic| walk_at "hx") => `(tactic| first
  | exact UA.ix (by assumption)
  | exact UA.ix (UA.ex' (by assumption) (by assumption))
  | exact UA.ix (UA.ex' (by assumption) (UA.ex' (by assumption) (by assumption)))
  | exact UA.ix (UA.ex' (by assumption) (UA.ex' (by assumption) (UA.ex' (by assumption) (by assumption)))))
local macro_rules | `(tactic| walk_at "tr1") => `(tactic| first
  | ((with_reducible show SqL _ _ _ _); first
    | assumption
    | exact .inl (.inl (by assumption))
    | with_reducible refine' ex_l (by assumption) ?_
    | (with_reducible refine' kp_l (by assumption) ?hx ?_); (case hx => walk_at "hx"))
  | ((with_reducible show SqT _ _ _ _); first
    | assumption
    | exact .inl (.inl (by assumption))
    | with_reducible refine' ex_t (by assumption) ?_
    | (with_reducible refine' kp_t (by assumption) ?hx ?_); (case hx => walk_at "hx"))
  | ((with_reducible show _ = some _); first
    | assumption
    | with_reducible refine' ex_lst (by assumption) ?_
    | (with_reducible refine' kp_lst (by assumption) ?hx ?_); (case hx => walk_at "hx")
    | (with_reducible refine' kp_tup (by assumption) ?hx ?_); (case hx => walk_at "hx")
    | (with_reducible refine' kp_dK (by assumption) ?hx ?_); (case hx => walk_at "hx")))
local macro_rules | `(tactic| walk_at "tr") => `(tactic| (repeat (any_goals (walk_at "tr1"))); done)
local macro_rules | `(tactic| walk_at "ix") => `(tactic| first
  | (with_reducible show rIxL _ _ _ _ _); (refine' g_ixLm ?hs ?h0 ?h1 ?hq); (case hs => walk_at "tr"); (case h0 => omega); (case h1 => (simp only [List.length_cons, List.length_nil]; omega)); (case' hq => skip)
  | (with_reducible show rIxT _ _ _ _ _); (refine' g_ixTm ?hs ?h0 ?h1 ?hq); (case hs => walk_at "tr"); (case h0 => omega); (case h1 => (simp only [List.length_cons, List.length_nil]; omega)); (case' hq => skip)
  | (with_reducible show rIxS _ _ _ _); (refine' g_ixSm ?hs ?h0 ?h1 ?hq); (case hs => decide +kernel); (case h0 => omega); (case h1 => exact Int.lt_of_lt_of_le (by assumption) (by decide +kernel)); (case' hq => skip))
local macro_rules | `(tactic| walk_at "g1") => `(tactic| first
  | (with_reducible show tVar _ _ _ _); refine g_var rfl ?_
  | with_reducible refine g_c ?_
  | (with_reducible refine g_seq ?_); (try dsimp only [List.set_cons_succ, List.set_cons_zero])
  | with_reducible refine g_op ?_
  | with_reducible refine g_un ?_
  | with_reducible refine g_I0 ?_
  | with_reducible refine g_U ?_
  | (with_reducible refine g_Eq ?hs ?_); (case hs => rfl)
  | (with_reducible refine g_Ne ?hs ?_); (case hs => rfl)
  | with_reducible refine g_test ?_
  | with_reducible refine g_B ?_
  | with_reducible refine g_ifS ?_
  | with_reducible refine g_asg ?_
  | with_reducible refine g_asgG ?_
  | with_reducible refine g_ret ?_
  | with_reducible refine g_retU ?_
  | with_reducible refine g_drop ?_
  | with_reducible refine g_next ?_
  | with_reducible refine g_name ?_
  | with_reducible refine g_and ?_
  | with_reducible refine g_or ?_
  | with_reducible refine g_not ?_
  | with_reducible refine g_andV ?_
  | with_reducible refine g_orV ?_
  | with_reducible refine g_notV ?_
  | with_reducible refine g_if ?_
  | with_reducible refine g_nil ?_
  | with_reducible refine g_cons ?_
  | with_reducible refine g_call ?_
  | with_reducible refine g_callKw ?_
  | with_reducible refine g_callS ?_
  | with_reducible refine g_cb ?_
  | with_reducible refine g_tup ?_
  | with_reducible refine g_lst ?_
  | with_reducible refine g_ipI ?_
  | with_reducible refine g_sub ?_
  | with_reducible refine g_augS ?_
  | (with_reducible show tAug _ _ _ _ _ _); refine g_aug rfl ?_
  | with_reducible refine g_M1 ?_
  | with_reducible refine g_M0 ?_
  | with_reducible refine g_yes ?_
  | with_reducible refine g_sl ?_
  | with_reducible refine g_nopart ?_
  | with_reducible refine g_part ?_
  | with_reducible refine g_lc ?_
  | with_reducible refine g_join ?_
  | (with_reducible show gTup _ _ _ (V.ref _) _ _ _); (refine' ⟨_, _, rfl, ?hs, ?hl, ?hm⟩); (case hs => walk_at "tr"); (case hl => rfl); (case' hm => skip)
  | (with_reducible show gCons _ _ _ _ _ _); (refine ⟨_, _, rfl, ?_⟩)
  | (with_reducible show gNil _ _ _ _); (refine ⟨rfl, ?_⟩)
  | (with_reducible show V.non = V.non ∧ _); (refine ⟨rfl, ?_⟩)
  | (with_reducible show rSlT _ _ _ _ _ _); (refine' g_slT ?hs ?hn ?hy ?hm); (case hs => walk_at "tr"); (case hn => first | exact fun z => absurd z.2 (Nat.ne_of_beq_eq_false rfl) | exact fun z => absurd z.1 (Nat.ne_of_beq_eq_false rfl)); (case hy => rfl); (case' hm => skip)
  | (with_reducible show rSlL _ _ _ _ _ _); (refine' g_slL ?hs ?hm); (case hs => walk_at "tr"); (case' hm => skip)
  | with_reducible refine g_js ?_
  | with_reducible refine g_js0 ?_
  | with_reducible refine g_fmt ?_
  | with_reducible refine g_for ?_
  | with_reducible refine g_iR1 ?_
  | with_reducible refine g_iL ?_
  | with_reducible refine g_iT ?_
  | with_reducible refine g_iE ?_
  | with_reducible refine g_iZ ?_
  | (with_reducible show ∃ k, V.bl _ = V.bl k ∧ _); refine ⟨_, rfl, ?_⟩
  | (with_reducible show ∃ k, V.int _ = V.int k ∧ _); refine ⟨_, rfl, ?_⟩
  | (with_reducible show (∃ a, V.str _ = V.str a) ∧ _); refine ⟨⟨_, rfl⟩, ?_⟩
  | (with_reducible show ∃ j : Int, [V.int _] = [V.int j] ∧ -(2 ^ 62) ≤ j ∧ _); (refine ⟨_, rfl, ?h0, ?h1, ?hm⟩); (case h0 => omega); (case h1 => omega); (case' hm => skip)
  | (with_reducible show ∃ i j : Int, [V.int _, V.int _] = [V.int i, V.int j] ∧ _); (refine ⟨_, _, rfl, ?_⟩)
  | (with_reducible show (∃ i : Int, [V.bl _] = [V.int i] ∧ _) ∨ _); (refine .inr ⟨_, rfl, ?_⟩)
  | (with_reducible show (∃ i : Int, [V.int _] = [V.int i] ∧ _) ∨ _); (refine .inl ⟨_, rfl, ?_⟩)
  | (with_reducible show ∃ a, V.ref _ = V.ref a ∧ (∃ xs, SqL _ _ a xs) ∧ _); (refine' ⟨_, rfl, ⟨_, ?hs⟩, ?hm⟩); (case hs => walk_at "tr"); (case' hm => skip)
  | (with_reducible show ∃ a, V.ref _ = V.ref a ∧ (∃ xs, SqT _ _ a xs) ∧ _); (refine' ⟨_, rfl, ⟨_, ?hs⟩, ?hm⟩); (case hs => walk_at "tr"); (case' hm => skip)
  | (with_reducible show ∃ a xs, [V.ref _] = [V.ref a] ∧ SqL _ _ a xs ∧ _); (refine' ⟨_, _, rfl, ?hs, ?hm⟩); (case hs => walk_at "tr"); (case' hm => skip)
  | (with_reducible show rIxL _ _ _ _ _); (refine' g_ixL ?hs ?ha ?hm); (case hs => walk_at "tr"); (case ha => rfl); (case' hm => skip)
  | (with_reducible show rIxT _ _ _ _ _); (refine' g_ixT ?hs ?ha ?hm); (case hs => walk_at "tr"); (case ha => rfl); (case' hm => skip)
  | (with_reducible show rGetL _ _ _ _ _); (refine' g_getL ?hs ?h0 ?ha ?hm); (case hs => walk_at "tr"); (case h0 => decide); (case ha => rfl); (case' hm => skip)
  | (with_reducible refine g_newL ?hz ?_); (case hz => exact small_sz (Nat.le_of_ble_eq_true rfl))
  | (with_reducible refine g_newT ?hz ?_); (case hz => exact small_sz (Nat.le_of_ble_eq_true rfl))
  | (with_reducible refine g_I ?hc ?_); (case hc => first
      | exact ⟨by omega, by omega⟩ | exact Or.inl ⟨by omega, by omega⟩ | exact Or.inr ⟨by omega, by omega⟩ | ((with_reducible show (0 : Int) < _); omega) | exact ⟨by omega, by omega, by omega⟩ | decide))
local macro_rules | `(tactic| walk_at "g") => `(tactic| repeat (walk_at "g1"))

section
variable {P : Program} {w : World} {K : PySem.W.Frag} {mg : Str → Option Value} {base : Heap}



structure Tb (Pn Pd Pw u : Addr) (H : Hp) : Prop where
  t : Tb3 Pn Pd Pw H
  nn : Pn ≠ u
  nd : Pd ≠ u
  nw : Pw ≠ u
theorem Tb.kp {Pn Pd Pw u : Addr} {H H' : Hp} (h : Tb Pn Pd Pw u H) (k : Kp u H H') : Tb Pn Pd Pw u H' := ⟨⟨k _ _ h.nn h.t.1, k _ _ h.nd h.t.2.1, k _ _ h.nw h.t.2.2⟩, h.nn, h.nd, h.nw⟩
theorem lw_self (L : LeafD) : lwB L L = false := Bool.eq_false_iff.mpr fun z => by
  have := ((lw_iff L L).mp z).2.2.2.2.1
  omega
theorem RowAt.ex {H H' : Hp} {p : Addr} {rs : List (Addr × LeafD)} (h : RowAt H p rs) (e : Ex H H') : RowAt H' p rs := ⟨e _ _ h.1, fun x hx => ⟨(h.2.1 x hx).1.ex e, (h.2.1 x hx).2⟩, h.2.2⟩
theorem g_iR2 {ta : TA} {σ : L2.St} {H : Hp} {R : It → Hp → Prop} (h : ta σ H fun vs H1 => ∃ i j : Int, vs = [.int i, .int j] ∧ (-(2 ^ 62) ≤ i ∧ i < 2 ^ 62 ∧ -(2 ^ 62) ≤ j ∧ j < 2 ^ 62) ∧ R (Itr i (j - i).toNat) H1) : iRng2 ta σ H R := h
def spRight (Pn Pd Pw : Addr) : Sp := fun vs H Q _ => ∃ (u : Addr), vs = [.ref u] ∧ UA Ur u 0 H ∧ Tb Pn Pd Pw u H ∧ ∀ H2, Kp u H H2 → UA Ur u 400 H2 → Q (.bl true) H2
theorem ok_right {Pn Pd Pw : Addr} (T : Txt K mg) (c__law_row : Cal P w K mg base 4 "_law_row" spRow) (c__law_pair_right : Cal P w K mg base 6 "_law_pair_right" (spPair Pn Pd Pw)) (c_is_leave : Cal P w K mg base 5 "is_leave" (spLeave Pn Pd))
    (c_lies_within : Cal P w K mg base 1 "lies_within" (spWithin Pw)) (A : At K mg "_law_right" s__law_right ["urn"]) : Cal P w K mg base 7 "_law_right" (spRight Pn Pd Pw) := by
  refine A.of fun f fd F => fn_ok F sc__law_right (fun vs H Q E h => ?_) (fun cdv A outer s H vs Q E hr h => ?_)
  · obtain ⟨u, rfl, _⟩ := h
    rfl
  · obtain ⟨u, rfl, U0, tb0, k⟩ := h
    refine ⟨_, [some (.ref u), none, none], rfl, (pss_cons (ps_set (i := 1) sc__law_right.nd rfl (Or.inr rfl) (pe_c c__law_row hr (by decide) rfl (pa_cons (pv 0) pa_nil)))
      (pss_cons (ps_if (PW.pt (pw_or (pt_not (pt_val (pe_c c_is_leave hr (by decide) rfl (pa_cons (pe_ix ix_list (pv 1) pe_int (fun _ _ => rfl)) pa_nil)))) (pw_or (pt_cmpR op_gt (pe_callB call_len_seq (by rfl) T.z_len (by decide +kernel) (pa_cons (pv 1) pa_nil)) pe_int (nomark _)) (pw_or1 (pt_val (pe_c c_lies_within hr (by decide) rfl (pa_cons (pe_ix ix_list (pv 1) pe_int (fun _ _ => rfl)) (pa_cons (pe_ix ix_list (pv 1) pe_int (fun _ _ => rfl)) pa_nil))))))))
      (pss_one (ps_ret pe_bl))
      pss_nil)
      (pss_one (ps_ret (pe_callB (cr_all rfl) (by rfl) T.z_all (by decide +kernel) (pa_cons (pe_lc (own := [("at", 2)]) (g := gName 2) (tt := tYes) rfl sc__law_right.nd (pi_range2 rfl T.z_range (pa_cons pe_int (pa_cons (pe_callB call_len_seq (by rfl) T.z_len (by decide +kernel) (pa_cons (pv 1) pa_nil)) pa_nil))) (blkOk_by (own := [("at", 2)]) (N := ["urn", "row", "at"]) (sc := defScope s__law_right) (by decide +kernel)) (fun _ _ _ _ _ => (pg_name (i := 2) sc__law_right.nd rfl (Or.inl rfl))) (fun _ _ _ _ _ => pts_nil) (fun _ _ _ _ _ => (pe_c c__law_pair_right hr (by decide) rfl (pa_cons (pv 1) (pa_cons (pv 2) pa_nil))))) pa_nil)))))), ?_⟩
    try dsimp only [cxOf]
    walk_at "g"
    refine ⟨u, rfl, U0, fun p rs H1 hR hl1 hl7 U1 k1 => ?_⟩
    have tb1 := tb0.kp k1
    have hx0 : rs[0]? = some rs[0] := List.getElem?_eq_getElem (by omega)
    generalize rs[0] = x0 at hx0
    obtain ⟨hT, hO⟩ := hR.2.1 x0 (List.mem_of_getElem? hx0)
    have i0 : atI (rs.map fun x => V.ref x.1) 0 = some (.ref x0.1) := atI_nat (j := 0) (by rw [List.getElem?_map, hx0] <;> rfl)
    walk_at "g"
    refine g_ixL (SqL.of hR.1) i0 ?_
    walk_at "g"
    refine ⟨x0.1, x0.2, rfl, tb1.t.1, tb1.t.2.1, hT, hO, ⟨_, rfl, ?_⟩⟩
    refine ite_ff ?_
    walk_at "g"
    refine ⟨p, _, rfl, .inl (SqL.of hR.1), ?_⟩
    walk_at "g"
    rw [if_neg (by rw [List.length_map]; simp; omega)]
    walk_at "g"
    refine g_ixL (SqL.of hR.1) i0 ?_
    walk_at "g"
    refine g_ixL (SqL.of hR.1) i0 ?_
    walk_at "g"
    refine ⟨x0.1, x0.1, x0.2, x0.2, rfl, tb1.t.2.2, hT, hT, ⟨_, rfl, ?_⟩⟩
    rw [lw_self]
    refine ite_ff ?_
    walk_at "g"
    refine g_iR2 ?_
    walk_at "g"
    refine ⟨p, _, rfl, .inl (SqL.of hR.1), ?_⟩
    have en : ((((rs.map fun x => V.ref x.1).length : Nat) : Int) - 1).toNat = rs.length - 1 := by
      rw [List.length_map]
      omega
    walk_at "g"
    refine ⟨by rw [List.length_map]; omega, fun Dl nD => ?_⟩
    rw [en]
    refine lcR (lo := 1) (n := rs.length - 1) (fun i acc H' => Ex H1 H' ∧ acc = List.replicate i (V.bl true)) (by omega) nD ⟨Ex.refl _, rfl⟩ (fun i acc H' o h => ⟨h.1.mut nD, h.2⟩) ?hw ?hs ?hd
    case hw => exact fun x => wipe1 x
    case hs =>
      rintro i acc H3 R hi ha hD ⟨e3, rfl⟩ r
      walk_at "g"
      have ea : (1 : Int) + (i : Int) = ((i + 1 : Nat) : Int) := by omega
      rw [ea]
      refine ⟨p, i + 1, rs, rfl, ⟨e3 _ _ tb1.t.1, e3 _ _ tb1.t.2.1, e3 _ _ tb1.t.2.2⟩, hR.ex e3, by omega, by omega, hl7, fun H4 e4 => ?_⟩
      exact r _ H4 (e4 _ _ hD) ⟨e3.trans e4, by rw [List.replicate_succ']⟩
    case hd =>
      rintro H3 acc ha hD ⟨e3, rfl⟩
      walk_at "g"
      refine ⟨Dl, List.replicate (rs.length - 1) true, rfl, SqL.of (by rw [hD, List.map_replicate]), ?_⟩
      have z : (List.replicate (rs.length - 1) true).all id = true := List.all_eq_true.mpr fun b hb => (List.mem_replicate.mp hb).2
      rw [z]
      walk_at "g"
      exact k H3 (k1.trans (Kp.of e3)) ((U1.ex e3).mono (by omega))

end
end K10

namespace K10
open PySem PySem.Spec PyProof.Rows L2 Lk Evl









local macro_rules | `(tactic| walk_at "hx") => `(tactic| first
  | exact UA.ix (by assumption)
  | exact UA.ix (UA.ex' (by assumption) (by assumption))
  | exact UA.ix (UA.ex' (by assumption) (UA.ex' (by assumption) (by assumption)))
  | exact UA.ix (UA.ex' (by assumption) (UA.ex' (by assumption) (UA.ex' (by assumption) (by assumption)))))
local macro_rules | `(tactic| walk_at "tr1") => `(tactic| first
  | ((with_reducible show SqL _ _ _ _); first
    | assumption
    | exact .inl (.inl (by assumption))
    | with_reducible refine' ex_l (by assumption) ?_
    | (with_reducible refine' kp_l (by assumption) ?hx ?_); (case hx => walk_at "hx"))
  | ((with_reducible show SqT _ _ _ _); first
    | assumption
    | exact .inl (.inl (by assumption))
    | with_reducible refine' ex_t (by assumption) ?_
    | (with_reducible refine' kp_t (by assumption) ?hx ?_); (case hx => walk_at "hx"))
  | ((with_reducible show _ = some _); first
    | assumption
    | with_reducible refine' ex_lst (by assumption) ?_
    | (with_reducible refine' kp_lst (by assumption) ?hx ?_); (case hx => walk_at "hx")
    | (with_reducible refine' kp_tup (by assumption) ?hx ?_); (case hx => walk_at "hx")
    | (with_reducible refine' kp_dK (by assumption) ?hx ?_); (case hx => walk_at "hx")))
local macro_rules | `(tactic| walk_at "tr") => `(tactic| (repeat (any_goals (walk_at "tr1"))); done)
local macro_rules | `(tactic| walk_at "ix") => `(tactic| first
  | (with_reducible show rIxL _ _ _ _ _); (refine' g_ixLm ?hs ?h0 ?h1 ?hq); (case hs => walk_at "tr"); (case h0 => omega); (case h1 => (simp only [List.length_cons, List.length_nil]; omega)); (case' hq => skip)
  | (with_reducible show rIxT _ _ _ _ _); (refine' g_ixTm ?hs ?h0 ?h1 ?hq); (case hs => walk_at "tr"); (case h0 => omega); (case h1 => (simp only [List.length_cons, List.length_nil]; omega)); (case' hq => skip)
  | (with_reducible show rIxS _ _ _ _); (refine' g_ixSm ?hs ?h0 ?h1 ?hq); (case hs => decide +kernel); (case h0 => omega); (case h1 => exact Int.lt_of_lt_of_le (by assumption) (by decide +kernel)); (case' hq => skip))
local macro_rules | `(tactic| walk_at "g1") => `(tactic| first
  | (with_reducible show tVar _ _ _ _); refine g_var rfl ?_
  | with_reducible refine g_c ?_
  | (with_reducible refine g_seq ?_); (try dsimp only [List.set_cons_succ, List.set_cons_zero])
  | with_reducible refine g_op ?_
  | with_reducible refine g_un ?_
  | with_reducible refine g_I0 ?_
  | with_reducible refine g_U ?_
  | (with_reducible refine g_Eq ?hs ?_); (case hs => rfl)
  | (with_reducible refine g_Ne ?hs ?_); (case hs => rfl)
  | with_reducible refine g_test ?_
  | with_reducible refine g_B ?_
  | with_reducible refine g_ifS ?_
  | with_reducible refine g_asg ?_
  | with_reducible refine g_asgG ?_
  | with_reducible refine g_ret ?_
  | with_reducible refine g_retU ?_
  | with_reducible refine g_drop ?_
  | with_reducible refine g_next ?_
  | with_reducible refine g_name ?_
  | with_reducible refine g_and ?_
  | with_reducible refine g_or ?_
  | with_reducible refine g_not ?_
  | with_reducible refine g_andV ?_
  | with_reducible refine g_orV ?_
  | with_reducible refine g_notV ?_
  | with_reducible refine g_if ?_
  | with_reducible refine g_nil ?_
  | with_reducible refine g_cons ?_
  | with_reducible refine g_call ?_
  | with_reducible refine g_callKw ?_
  | with_reducible refine g_callS ?_
  | with_reducible refine g_cb ?_
  | with_reducible refine g_tup ?_
  | with_reducible refine g_lst ?_
  | with_reducible refine g_ipI ?_
  | with_reducible refine g_sub ?_
  | with_reducible refine g_augS ?_
  | (with_reducible show tAug _ _ _ _ _ _); refine g_aug rfl ?_
  | with_reducible refine g_M1 ?_
  | with_reducible refine g_M0 ?_
  | with_reducible refine g_yes ?_
  | with_reducible refine g_sl ?_
  | with_reducible refine g_nopart ?_
  | with_reducible refine g_part ?_
  | with_reducible refine g_lc ?_
  | with_reducible refine g_join ?_
  | (with_reducible show gTup _ _ _ (V.ref _) _ _ _); (refine' ⟨_, _, rfl, ?hs, ?hl, ?hm⟩); (case hs => walk_at "tr"); (case hl => rfl); (case' hm => skip)
  | (with_reducible show gCons _ _ _ _ _ _); (refine ⟨_, _, rfl, ?_⟩)
  | (with_reducible show gNil _ _ _ _); (refine ⟨rfl, ?_⟩)
  | (with_reducible show V.non = V.non ∧ _); (refine ⟨rfl, ?_⟩)
  | (with_reducible show rSlT _ _ _ _ _ _); (refine' g_slT ?hs ?hn ?hy ?hm); (case hs => walk_at "tr"); (case hn => first | exact fun z => absurd z.2 (Nat.ne_of_beq_eq_false rfl) | exact fun z => absurd z.1 (Nat.ne_of_beq_eq_false rfl)); (case hy => rfl); (case' hm => skip)
  | (with_reducible show rSlL _ _ _ _ _ _); (refine' g_slL ?hs ?hm); (case hs => walk_at "tr"); (case' hm => skip)
  | with_reducible refine g_js ?_
  | with_reducible refine g_js0 ?_
  | with_reducible refine g_fmt ?_
  | with_reducible refine g_for ?_
  | with_reducible refine g_iR1 ?_
  | with_reducible refine g_iL ?_
  | with_reducible refine g_iT ?_
  | with_reducible refine g_iE ?_
  | with_reducible refine g_iZ ?_
  | (with_reducible show ∃ k, V.bl _ = V.bl k ∧ _); refine ⟨_, rfl, ?_⟩
  | (with_reducible show ∃ k, V.int _ = V.int k ∧ _); refine ⟨_, rfl, ?_⟩
  | (with_reducible show (∃ a, V.str _ = V.str a) ∧ _); refine ⟨⟨_, rfl⟩, ?_⟩
  | (with_reducible show ∃ j : Int, [V.int _] = [V.int j] ∧ -(2 ^ 62) ≤ j ∧ _); (refine ⟨_, rfl, ?h0, ?h1, ?hm⟩); (case h0 => omega); (case h1 => omega); (case' hm => skip)
  | (with_reducible show ∃ i j : Int, [V.int _, V.int _] = [V.int i, V.int j] ∧ _); (refine ⟨_, _, rfl, ?_⟩)
  | (with_reducible show (∃ i : Int, [V.bl _] = [V.int i] ∧ _) ∨ _); (refine .inr ⟨_, rfl, ?_⟩)
  | (with_reducible show (∃ i : Int, [V.int _] = [V.int i] ∧ _) ∨ _); (refine .inl ⟨_, rfl, ?_⟩)
  | (with_reducible show ∃ a, V.ref _ = V.ref a ∧ (∃ xs, SqL _ _ a xs) ∧ _); (refine' ⟨_, rfl, ⟨_, ?hs⟩, ?hm⟩); (case hs => walk_at "tr"); (case' hm => skip)
  | (with_reducible show ∃ a, V.ref _ = V.ref a ∧ (∃ xs, SqT _ _ a xs) ∧ _); (refine' ⟨_, rfl, ⟨_, ?hs⟩, ?hm⟩); (case hs => walk_at "tr"); (case' hm => skip)
  | (with_reducible show ∃ a xs, [V.ref _] = [V.ref a] ∧ SqL _ _ a xs ∧ _); (refine' ⟨_, _, rfl, ?hs, ?hm⟩); (case hs => walk_at "tr"); (case' hm => skip)
  | (with_reducible show rIxL _ _ _ _ _); (refine' g_ixL ?hs ?ha ?hm); (case hs => walk_at "tr"); (case ha => rfl); (case' hm => skip)
  | (with_reducible show rIxT _ _ _ _ _); (refine' g_ixT ?hs ?ha ?hm); (case hs => walk_at "tr"); (case ha => rfl); (case' hm => skip)
  | (with_reducible show rGetL _ _ _ _ _); (refine' g_getL ?hs ?h0 ?ha ?hm); (case hs => walk_at "tr"); (case h0 => decide); (case ha => rfl); (case' hm => skip)
  | (with_reducible refine g_newL ?hz ?_); (case hz => exact small_sz (Nat.le_of_ble_eq_true rfl))
  | (with_reducible refine g_newT ?hz ?_); (case hz => exact small_sz (Nat.le_of_ble_eq_true rfl))
  | (with_reducible refine g_I ?hc ?_); (case hc => first
      | exact ⟨by omega, by omega⟩ | exact Or.inl ⟨by omega, by omega⟩ | exact Or.inr ⟨by omega, by omega⟩ | ((with_reducible show (0 : Int) < _); omega) | exact ⟨by omega, by omega, by omega⟩ | decide))
local macro_rules | `(tactic| walk_at "g") => `(tactic| repeat (walk_at "g1"))

section
variable {P : Program} {w : World} {K : PySem.W.Frag} {mg : Str → Option Value} {base : Heap}



def spUrn : Sp := fun vs H Q _ => ∃ (c k : Int), vs = [.int c, .int k] ∧ 0 ≤ k ∧ k ≤ 63 ∧ ∀ u H2, H u = none → UA Ur u 0 H2 → Kp u H H2 → Q (.ref u) H2
theorem ok_urn (T : Txt K mg) (A : At K mg "_law_urn" s__law_urn ["cell", "k"]) : Cal P w K mg base 1 "_law_urn" spUrn := by
  refine A.of fun f fd F => fn_ok F sc__law_urn (fun vs H Q E h => ?_) (fun cdv A outer s H vs Q E hr h => ?_)
  · obtain ⟨c, k, rfl, _⟩ := h
    rfl
  · obtain ⟨c, k, rfl, k0, k1, q⟩ := h
    refine ⟨_, [some (.int c), some (.int k)], rfl, (pss_one (ps_retU (pe_lst (pa_cons (pe_callB (call_max2 rfl) (by rfl) T.z_max (by decide +kernel) (pa_cons pe_int (pa_cons (pe_op op_sub (pv 0) (pe_op op_pow pe_int pe_int)) pa_nil))) (pa_cons (pe_op op_add (pe_op op_mod (pv 0) (pe_op op_add (pe_op op_pow pe_int pe_int) pe_int)) (pe_op op_mul pe_int (pv 1))) (pa_cons pe_int pa_nil)))))), ?_⟩
    try dsimp only [cxOf]
    walk_at "g"
    intro u H2 nu e2 hu
    refine ⟨u, Ur 0, _, _, _, hu, ?_, fun H3 h3 k3 => q u H3 nu ⟨0, Nat.le_refl _, h3⟩ ((Kp.of e2).trans k3)⟩
    have hM : (0 : Int) < 10 ^ Int.toNat 41 + 63 := by decide
    have hM2 : (10 : Int) ^ Int.toNat 41 + 63 < 2 ^ 190 := by decide
    have a := Int.emod_nonneg c (show (10 : Int) ^ Int.toNat 41 + 63 ≠ 0 by omega)
    have b := Int.emod_lt_of_pos c hM
    exact ⟨by omega, by omega, by omega⟩

def spLaw (K : PySem.W.Frag) (Pn Pd Pw : Addr) : Sp := fun vs H Q _ => ∃ (a : Addr) (ns : List Int), vs = [.ref a] ∧ SqX K H a (ns.map V.int) ∧ ns.length ≤ 63 ∧ (H Pn = some (TabO Pn) ∧ H Pd = some (TabO Pd) ∧ H Pw = some (TabO Pw)) ∧ ∀ H2, Ex H H2 → Q (.bl true) H2
theorem fn_law {Pn Pd Pw : Addr} (T : Txt K mg) (c__law_urn : Cal P w K mg base 1 "_law_urn" spUrn) (c__law_right : Cal P w K mg base 7 "_law_right" (spRight Pn Pd Pw)) {f : Addr} {fd : FuncData} (F : Fun K "law" "law" s_law f fd) : FnOk P w K mg base CX0 8 f fd ["script"] (spLaw K Pn Pd Pw) := by
  refine fn_ok F sc_law (fun vs H Q E h => ?_) (fun cdv A outer s H vs Q E hr h => ?_)
  · obtain ⟨a, ns, rfl, _⟩ := h
    rfl
  · obtain ⟨a, ns, rfl, ha, hn, ⟨b1, b2, b3⟩, k⟩ := h
    refine ⟨_, [some (.ref a), none, none], rfl, (pss_cons (ps_for PassesOwn.never rfl (pi_enum rfl T.z_enumerate (pa_cons (pe_slice sl_list (pe_op op_catX (pv 0) (pe_lst (pa_cons pe_int pa_nil))) po_none (po_some (pe_callB (call_max2 rfl) (by rfl) T.z_max (by decide +kernel) (pa_cons pe_int (pa_cons (pe_callB (call_min2 rfl) (by rfl) T.z_min (by decide +kernel) (pa_cons (pe_callB call_len_seq (by rfl) T.z_len (by decide +kernel) (pa_cons (pv 0) pa_nil)) (pa_cons pe_int pa_nil))) pa_nil))))) pa_nil)) (pg_tup rfl (pgs_cons (pg_name (i := 1) sc_law.nd rfl (Or.inl rfl)) (pgs_cons (pg_name (i := 2) sc_law.nd rfl (Or.inl rfl)) pgs_nil)))
      (pss_one (ps_if (pt_not (pt_val (pe_c c__law_right hr (by decide) rfl (pa_cons (pe_c c__law_urn hr (by decide) rfl (pa_cons (pv 2) (pa_cons (pv 1) pa_nil))) pa_nil))))
      (pss_one (ps_ret pe_bl))
      pss_nil)))
      (pss_one (ps_ret pe_bl))), ?_⟩
    try dsimp only [cxOf]
    walk_at "g"
    intro z H1 nz e1 hz
    refine g_catX (ha.ex e1) hz (by rw [List.length_map]; exact small_sz (by simp only [List.length_cons, List.length_nil]; omega)) (g_newL ?_ fun p H2 np e2 hp => ?_)
    · rw [List.length_append, List.length_map]
      exact small_sz (by simp only [List.length_cons, List.length_nil]; omega)
    walk_at "g"
    refine ⟨a, _, rfl, .inl ((ha.ex e1).ex e2).l, ?_⟩
    walk_at "g"
    intro q H3 nq e3 hq
    walk_at "g"
    have e13 : Ex H H3 := (e1.trans e2).trans e3
    generalize hcl : cutV _ _ _ = cl at hq
    have hlen : cl.length ≤ ns.length + 1 := by
      rw [← hcl]
      exact cells_len _ _ _
    have hint : ∀ i v, cl[i]? = some v → ∃ c, v = V.int c := fun i v hv => by
      rw [← hcl] at hv
      exact cells_int hv
    refine for_enum (xs := cl) (fun i σ H' => ∃ x1 x2, σ = [some (.ref a), x1, x2] ∧ Ex H3 H') ⟨_, _, rfl, Ex.refl _⟩ ?_ ?_ ?_
    · rintro i σ H' _ ⟨x1, x2, rfl, e⟩
      exact SqL.of (e _ _ hq)
    · rintro i x t σ H4 H5 hx ⟨x1, x2, rfl, e4⟩ nt e5 ht
      obtain ⟨c, rfl⟩ := hint i x hx
      have hi := (List.getElem?_eq_some_iff.mp hx).1
      walk_at "g"
      refine ⟨c, i, rfl, by omega, by omega, fun u H6 nu U6 k6 => ?_⟩
      walk_at "g"
      have e15 := (e13.trans e4).trans e5
      have off : ∀ {P : Addr} {o : HO}, H P = some o → P ≠ u := fun h z => by
        have q := e15 _ _ h
        rw [z, nu] at q
        cases q
      refine ⟨u, rfl, U6, ⟨⟨k6 _ _ (off b1) (e15 _ _ b1), k6 _ _ (off b2) (e15 _ _ b2), k6 _ _ (off b3) (e15 _ _ b3)⟩, off b1, off b2, off b3⟩, fun H7 k7 _ => ?_⟩
      walk_at "g"
      refine iteF ?_
      walk_at "g"
      exact ⟨_, _, rfl, e4.trans (e5.trans (kp_ex (k6.trans k7) nu))⟩
    · rintro σ H4 ⟨x1, x2, rfl, e4⟩
      walk_at "g"
      exact k H4 (e13.trans e4)
end
section
theorem glue {l : PySem.W.OpenLaw} {w : World} {K : PySem.W.Frag} {h : Heap} {mg : Str → Option Value} {fa : Addr} {fd : FuncData} {c1 P1 c2 P2 c3 P3 : Addr} (T : Txt K mg) (A1 : At K mg "is_whole" s_is_whole ["thing"]) (A2 : At K mg "is_between" s_is_between ["thing", "least", "most"]) (A3 : At K mg "is_moment" s_is_moment ["thing"]) (A3b : At K mg "is_span" s_is_span ["since", "until"])
    (A4 : AtC K mg "is_name" s_is_name ["thing"] c1) (A5 : AtC K mg "is_deeds" s_is_deeds ["thing"] c2) (A6 : At K mg "is_leave" s_is_leave ["thing"]) (A7 : AtC K mg "lies_within" s_lies_within ["leave", "other"] c3)
    (A8 : At K mg "_law_urn" s__law_urn ["cell", "k"]) (A9 : At K mg "_law_lot" s__law_lot ["urn", "many"]) (A10 : At K mg "_law_named" s__law_named ["urn"]) (A11 : At K mg "_law_leaf" s__law_leaf ["urn"]) (A12 : At K mg "_law_passed" s__law_passed ["urn", "leaf", "names"]) (A13 : At K mg "_law_row" s__law_row ["urn"]) (A14 : At K mg "_law_beyond" s__law_beyond ["leaf", "other"]) (A15 : At K mg "_law_pair_right" s__law_pair_right ["row", "at"]) (A16 : At K mg "_law_right" s__law_right ["urn"])
    (t1 : h.get? P1 = some { cls := .none, data := .fields #[] } ∧ PySem.W.CodeHd h c1 P1) (n1 : K.lookup P1 = none) (t2 : h.get? P2 = some { cls := .none, data := .fields #[] } ∧ PySem.W.CodeHd h c2 P2) (n2 : K.lookup P2 = none) (t3 : h.get? P3 = some { cls := .none, data := .fields #[] } ∧ PySem.W.CodeHd h c3 P3) (n3 : K.lookup P3 = none)
    (F : Fun K "law" "law" s_law fa fd) (hb : ∀ (s : Shared) (v : Value), BindsTo s fd ⟨[v], []⟩ [("script", v)]) : LawAt l w K 8 63 "script" mg h fa := by
  refine ⟨fd, [(c1, P1), (c2, P2), (c3, P3)], spLaw K P1 P2 P3, ?_, ?_, ?_, hb, fun H a ns hn _ hT hS => ⟨a, ns, rfl, hS, hn, ⟨hT (c1, P1) (by simp), hT (c2, P2) (by simp), hT (c3, P3) (by simp)⟩, fun H2 e => ⟨rfl, fun p hp => e _ _ (hT p hp)⟩⟩, fun base _ _ TB => ?_⟩
  · intro p hp
    simp only [List.mem_cons, List.not_mem_nil, or_false] at hp
    rcases hp with rfl | rfl | rfl
    · exact t1.1
    · exact t2.1
    · exact t3.1
  · intro p hp
    simp only [List.mem_cons, List.not_mem_nil, or_false] at hp
    rcases hp with rfl | rfl | rfl
    · exact n1
    · exact n2
    · exact n3
  · intro p hp
    simp only [List.mem_cons, List.not_mem_nil, or_false] at hp
    rcases hp with rfl | rfl | rfl
    · exact t1.2
    · exact t2.2
    · exact t3.2
  have b1 := TB (c1, P1) (by simp)
  have b2 := TB (c2, P2) (by simp)
  have b3 := TB (c3, P3) (by simp)
  have c_lot := ok_lot (P := l.prog) (w := w) (base := base) A9
  have c_named := ok_named T c_lot A10
  have c_leaf := ok_leaf T c_lot c_named A11
  have c_passed := ok_passed T c_lot A12
  have c_row := ok_row T c_lot c_leaf c_passed A13
  have c_beyond := ok_beyond (P := l.prog) (w := w) (base := base) T A14
  have c_whole := ok_whole (P := l.prog) (w := w) (base := base) T A1
  have c_between := ok_between T c_whole A2
  have c_moment := ok_moment T c_between A3
  have c_name := ok_isname (P := l.prog) (w := w) (base := base) T b1 A4
  have c_deeds := ok_isdeeds (P := l.prog) (w := w) (base := base) T b2 A5
  have c_span := ok_span T c_moment A3b
  have c_leave := ok_leave T c_whole c_between c_span c_name c_deeds A6
  have f_within := fun f fd (F : Fun K "lies_within" "lies_within" s_lies_within f fd) (hc : fd.code = .ref c3) => fn_within (P := l.prog) (w := w) (base := base) T b3 F hc
  have c_within := A7.of f_within
  have c_pair := ok_pair T c_beyond c_leave c_within A15
  exact fn_law T (ok_urn T A8) (ok_right T c_row c_pair c_leave c_within A16) F
end

theorem all_mk {l : PySem.W.OpenLaw} {w : World} {K : PySem.W.Frag} {h : Heap} {mg : Str → Option Value} {fa : Addr} (KX : K.In h) (G : h.Ns mainGlobals mg) (hfa : mg "law" = some (.ref fa))
    {f1 f2 f3 f4 f5 f6 f7 f8 f9 f10 f11 f12 f13 f14 f15 f16 f17 f18 : Addr} {od1 an1 od2 an2 od3 an3 od4 an4 od5 an5 od6 an6 od7 an7 od8 an8 od9 an9 od10 an10 od11 an11 od12 an12 od13 an13 od14 an14 od15 an15 od16 an16 od17 an17 od18 an18 : Option Addr} {sl1 sl2 sl3 sl4 sl5 sl6 sl7 sl8 sl9 sl10 sl11 sl12 sl13 sl14 sl15 sl16 sl17 sl18 : Array (Option Value)}
    {oc1 kV1 dc1 pm1 ct1 cd1 oc2 kV2 dc2 pm2 ct2 cd2 oc3 kV3 dc3 pm3 ct3 cd3 oc4 kV4 dc4 pm4 ct4 cd4 oc5 kV5 dc5 pm5 ct5 oc6 kV6 dc6 pm6 ct6 oc7 kV7 dc7 pm7 ct7 cd7 oc8 kV8 dc8 pm8 ct8 oc9 kV9 dc9 pm9 ct9 cd9 oc10 kV10 dc10 pm10 ct10 cd10 oc11 kV11 dc11 pm11 ct11 cd11 oc12 kV12 dc12 pm12 ct12 cd12 oc13 kV13 dc13 pm13 ct13 cd13 oc14 kV14 dc14 pm14 ct14 cd14 oc15 kV15 dc15 pm15 ct15 cd15 oc16 kV16 dc16 pm16 ct16 cd16 oc17 kV17 dc17 pm17 ct17 cd17 oc18 kV18 dc18 pm18 ct18 cd18 : Value}
    {q : Program} (TT : Tabs q K mg h) {cc5 pp5 cc6 pp6 cc8 pp8 : Addr} {ce5 ce6 ce8 : Value} {dd5 dd6 dd8 : Option Addr} {vs5 vs6 vs8 : Array Value} {sk5 sk6 sk8 : Array (Option Value)}
    (a1 : PySem.W.nsIn K mainGlobals "is_whole" = some (some (.ref f1)))
    (l1 : K.lookup f1 = some ⟨oc1, od1, .func (PySem.W.fnOf "is_whole" "is_whole" (defArgs s_is_whole) (defBody s_is_whole) (defScope s_is_whole) .none kV1 dc1 pm1 an1 cd1 ct1), sl1⟩)
    (c1 : PySem.W.codeIn K cd1 "is_whole" = true)
    (k1 : PySem.W.keepIn K (.ref f1) = true)
    (a2 : PySem.W.nsIn K mainGlobals "is_between" = some (some (.ref f2)))
    (l2 : K.lookup f2 = some ⟨oc2, od2, .func (PySem.W.fnOf "is_between" "is_between" (defArgs s_is_between) (defBody s_is_between) (defScope s_is_between) .none kV2 dc2 pm2 an2 cd2 ct2), sl2⟩)
    (c2 : PySem.W.codeIn K cd2 "is_between" = true)
    (k2 : PySem.W.keepIn K (.ref f2) = true)
    (a3 : PySem.W.nsIn K mainGlobals "is_moment" = some (some (.ref f3)))
    (l3 : K.lookup f3 = some ⟨oc3, od3, .func (PySem.W.fnOf "is_moment" "is_moment" (defArgs s_is_moment) (defBody s_is_moment) (defScope s_is_moment) .none kV3 dc3 pm3 an3 cd3 ct3), sl3⟩)
    (c3 : PySem.W.codeIn K cd3 "is_moment" = true)
    (k3 : PySem.W.keepIn K (.ref f3) = true)
    (a4 : PySem.W.nsIn K mainGlobals "is_span" = some (some (.ref f4)))
    (l4 : K.lookup f4 = some ⟨oc4, od4, .func (PySem.W.fnOf "is_span" "is_span" (defArgs s_is_span) (defBody s_is_span) (defScope s_is_span) .none kV4 dc4 pm4 an4 cd4 ct4), sl4⟩)
    (c4 : PySem.W.codeIn K cd4 "is_span" = true)
    (k4 : PySem.W.keepIn K (.ref f4) = true)
    (a5 : PySem.W.nsIn K mainGlobals "is_name" = some (some (.ref f5)))
    (l5 : K.lookup f5 = some ⟨oc5, od5, .func (PySem.W.fnOf "is_name" "is_name" (defArgs s_is_name) (defBody s_is_name) (defScope s_is_name) .none kV5 dc5 pm5 an5 (.ref cc5) ct5), sl5⟩)
    (c5 : PySem.W.codeIn K (.ref cc5) "is_name" = true)
    (k5 : PySem.W.keepIn K (.ref f5) = true)
    (j5 : ((recsOf q).any fun d => d.name == ("is_name" : Str)) = true)
    (q5 : K.lookup cc5 = some ⟨ce5, dd5, .fields vs5, sk5⟩)
    (r5 : vs5[11]? = some (.ref pp5))
    (n5 : K.lookup pp5 = none)
    (a6 : PySem.W.nsIn K mainGlobals "is_deeds" = some (some (.ref f6)))
    (l6 : K.lookup f6 = some ⟨oc6, od6, .func (PySem.W.fnOf "is_deeds" "is_deeds" (defArgs s_is_deeds) (defBody s_is_deeds) (defScope s_is_deeds) .none kV6 dc6 pm6 an6 (.ref cc6) ct6), sl6⟩)
    (c6 : PySem.W.codeIn K (.ref cc6) "is_deeds" = true)
    (k6 : PySem.W.keepIn K (.ref f6) = true)
    (j6 : ((recsOf q).any fun d => d.name == ("is_deeds" : Str)) = true)
    (q6 : K.lookup cc6 = some ⟨ce6, dd6, .fields vs6, sk6⟩)
    (r6 : vs6[11]? = some (.ref pp6))
    (n6 : K.lookup pp6 = none)
    (a7 : PySem.W.nsIn K mainGlobals "is_leave" = some (some (.ref f7)))
    (l7 : K.lookup f7 = some ⟨oc7, od7, .func (PySem.W.fnOf "is_leave" "is_leave" (defArgs s_is_leave) (defBody s_is_leave) (defScope s_is_leave) .none kV7 dc7 pm7 an7 cd7 ct7), sl7⟩)
    (c7 : PySem.W.codeIn K cd7 "is_leave" = true)
    (k7 : PySem.W.keepIn K (.ref f7) = true)
    (a8 : PySem.W.nsIn K mainGlobals "lies_within" = some (some (.ref f8)))
    (l8 : K.lookup f8 = some ⟨oc8, od8, .func (PySem.W.fnOf "lies_within" "lies_within" (defArgs s_lies_within) (defBody s_lies_within) (defScope s_lies_within) .none kV8 dc8 pm8 an8 (.ref cc8) ct8), sl8⟩)
    (c8 : PySem.W.codeIn K (.ref cc8) "lies_within" = true)
    (k8 : PySem.W.keepIn K (.ref f8) = true)
    (j8 : ((recsOf q).any fun d => d.name == ("lies_within" : Str)) = true)
    (q8 : K.lookup cc8 = some ⟨ce8, dd8, .fields vs8, sk8⟩)
    (r8 : vs8[11]? = some (.ref pp8))
    (n8 : K.lookup pp8 = none)
    (a9 : PySem.W.nsIn K mainGlobals "_law_urn" = some (some (.ref f9)))
    (l9 : K.lookup f9 = some ⟨oc9, od9, .func (PySem.W.fnOf "_law_urn" "_law_urn" (defArgs s__law_urn) (defBody s__law_urn) (defScope s__law_urn) .none kV9 dc9 pm9 an9 cd9 ct9), sl9⟩)
    (c9 : PySem.W.codeIn K cd9 "_law_urn" = true)
    (k9 : PySem.W.keepIn K (.ref f9) = true)
    (a10 : PySem.W.nsIn K mainGlobals "_law_lot" = some (some (.ref f10)))
    (l10 : K.lookup f10 = some ⟨oc10, od10, .func (PySem.W.fnOf "_law_lot" "_law_lot" (defArgs s__law_lot) (defBody s__law_lot) (defScope s__law_lot) .none kV10 dc10 pm10 an10 cd10 ct10), sl10⟩)
    (c10 : PySem.W.codeIn K cd10 "_law_lot" = true)
    (k10 : PySem.W.keepIn K (.ref f10) = true)
    (a11 : PySem.W.nsIn K mainGlobals "_law_named" = some (some (.ref f11)))
    (l11 : K.lookup f11 = some ⟨oc11, od11, .func (PySem.W.fnOf "_law_named" "_law_named" (defArgs s__law_named) (defBody s__law_named) (defScope s__law_named) .none kV11 dc11 pm11 an11 cd11 ct11), sl11⟩)
    (c11 : PySem.W.codeIn K cd11 "_law_named" = true)
    (k11 : PySem.W.keepIn K (.ref f11) = true)
    (a12 : PySem.W.nsIn K mainGlobals "_law_leaf" = some (some (.ref f12)))
    (l12 : K.lookup f12 = some ⟨oc12, od12, .func (PySem.W.fnOf "_law_leaf" "_law_leaf" (defArgs s__law_leaf) (defBody s__law_leaf) (defScope s__law_leaf) .none kV12 dc12 pm12 an12 cd12 ct12), sl12⟩)
    (c12 : PySem.W.codeIn K cd12 "_law_leaf" = true)
    (k12 : PySem.W.keepIn K (.ref f12) = true)
    (a13 : PySem.W.nsIn K mainGlobals "_law_passed" = some (some (.ref f13)))
    (l13 : K.lookup f13 = some ⟨oc13, od13, .func (PySem.W.fnOf "_law_passed" "_law_passed" (defArgs s__law_passed) (defBody s__law_passed) (defScope s__law_passed) .none kV13 dc13 pm13 an13 cd13 ct13), sl13⟩)
    (c13 : PySem.W.codeIn K cd13 "_law_passed" = true)
    (k13 : PySem.W.keepIn K (.ref f13) = true)
    (a14 : PySem.W.nsIn K mainGlobals "_law_row" = some (some (.ref f14)))
    (l14 : K.lookup f14 = some ⟨oc14, od14, .func (PySem.W.fnOf "_law_row" "_law_row" (defArgs s__law_row) (defBody s__law_row) (defScope s__law_row) .none kV14 dc14 pm14 an14 cd14 ct14), sl14⟩)
    (c14 : PySem.W.codeIn K cd14 "_law_row" = true)
    (k14 : PySem.W.keepIn K (.ref f14) = true)
    (a15 : PySem.W.nsIn K mainGlobals "_law_beyond" = some (some (.ref f15)))
    (l15 : K.lookup f15 = some ⟨oc15, od15, .func (PySem.W.fnOf "_law_beyond" "_law_beyond" (defArgs s__law_beyond) (defBody s__law_beyond) (defScope s__law_beyond) .none kV15 dc15 pm15 an15 cd15 ct15), sl15⟩)
    (c15 : PySem.W.codeIn K cd15 "_law_beyond" = true)
    (k15 : PySem.W.keepIn K (.ref f15) = true)
    (a16 : PySem.W.nsIn K mainGlobals "_law_pair_right" = some (some (.ref f16)))
    (l16 : K.lookup f16 = some ⟨oc16, od16, .func (PySem.W.fnOf "_law_pair_right" "_law_pair_right" (defArgs s__law_pair_right) (defBody s__law_pair_right) (defScope s__law_pair_right) .none kV16 dc16 pm16 an16 cd16 ct16), sl16⟩)
    (c16 : PySem.W.codeIn K cd16 "_law_pair_right" = true)
    (k16 : PySem.W.keepIn K (.ref f16) = true)
    (a17 : PySem.W.nsIn K mainGlobals "_law_right" = some (some (.ref f17)))
    (l17 : K.lookup f17 = some ⟨oc17, od17, .func (PySem.W.fnOf "_law_right" "_law_right" (defArgs s__law_right) (defBody s__law_right) (defScope s__law_right) .none kV17 dc17 pm17 an17 cd17 ct17), sl17⟩)
    (c17 : PySem.W.codeIn K cd17 "_law_right" = true)
    (k17 : PySem.W.keepIn K (.ref f17) = true)
    (a18 : PySem.W.nsIn K mainGlobals "law" = some (some (.ref f18)))
    (l18 : K.lookup f18 = some ⟨oc18, od18, .func (PySem.W.fnOf "law" "law" (defArgs s_law) (defBody s_law) (defScope s_law) .none kV18 dc18 pm18 an18 cd18 ct18), sl18⟩)
    (c18 : PySem.W.codeIn K cd18 "law" = true)
    (k18 : PySem.W.keepIn K (.ref f18) = true)
    (z_all : PySem.W.nsIn K mainGlobals "all" = some none)
    (z_bool : PySem.W.nsIn K mainGlobals "bool" = some none)
    (z_enumerate : PySem.W.nsIn K mainGlobals "enumerate" = some none)
    (z_int : PySem.W.nsIn K mainGlobals "int" = some none)
    (z_isinstance : PySem.W.nsIn K mainGlobals "isinstance" = some none)
    (z_len : PySem.W.nsIn K mainGlobals "len" = some none)
    (z_max : PySem.W.nsIn K mainGlobals "max" = some none)
    (z_min : PySem.W.nsIn K mainGlobals "min" = some none)
    (z_range : PySem.W.nsIn K mainGlobals "range" = some none)
    (z_str : PySem.W.nsIn K mainGlobals "str" = some none)
    (z_tuple : PySem.W.nsIn K mainGlobals "tuple" = some none)
    {p_ALL_DEEDS : Addr} {od_ALL_DEEDS : Option Addr} {n_ALL_DEEDS : Nat} {sl_ALL_DEEDS : Array (Option Value)}
    (g_ALL_DEEDS : PySem.W.nsIn K mainGlobals "ALL_DEEDS" = some (some (.ref p_ALL_DEEDS)))
    {t0_0_ALL_DEEDS : Tok} {p0_ALL_DEEDS : Addr} {od0_ALL_DEEDS : Option Addr} {n0_ALL_DEEDS : Nat} {sl0_ALL_DEEDS : Array (Option Value)}
    {t1_0_ALL_DEEDS : Tok} {p1_ALL_DEEDS : Addr} {od1_ALL_DEEDS : Option Addr} {n1_ALL_DEEDS : Nat} {sl1_ALL_DEEDS : Array (Option Value)}
    {t2_0_ALL_DEEDS t2_1_ALL_DEEDS : Tok} {p2_ALL_DEEDS : Addr} {od2_ALL_DEEDS : Option Addr} {n2_ALL_DEEDS : Nat} {sl2_ALL_DEEDS : Array (Option Value)}
    (o_ALL_DEEDS : K.lookup p_ALL_DEEDS = some ⟨.type "tuple", od_ALL_DEEDS, .seq #[.ref p0_ALL_DEEDS, .ref p1_ALL_DEEDS, .ref p2_ALL_DEEDS] n_ALL_DEEDS, sl_ALL_DEEDS⟩)
    (o0_ALL_DEEDS : K.lookup p0_ALL_DEEDS = some ⟨.type "tuple", od0_ALL_DEEDS, .seq #[.str "look" t0_0_ALL_DEEDS] n0_ALL_DEEDS, sl0_ALL_DEEDS⟩)
    (o1_ALL_DEEDS : K.lookup p1_ALL_DEEDS = some ⟨.type "tuple", od1_ALL_DEEDS, .seq #[.str "set" t1_0_ALL_DEEDS] n1_ALL_DEEDS, sl1_ALL_DEEDS⟩)
    (o2_ALL_DEEDS : K.lookup p2_ALL_DEEDS = some ⟨.type "tuple", od2_ALL_DEEDS, .seq #[.str "look" t2_0_ALL_DEEDS, .str "set" t2_1_ALL_DEEDS] n2_ALL_DEEDS, sl2_ALL_DEEDS⟩)
    {t_DEEDS : Tok}
    (g_DEEDS : PySem.W.nsIn K mainGlobals "DEEDS" = some (some (Value.int 2 t_DEEDS)))
    {t_GIVER : Tok}
    (g_GIVER : PySem.W.nsIn K mainGlobals "GIVER" = some (some (Value.int 3 t_GIVER)))
    {t_HOLDER : Tok}
    (g_HOLDER : PySem.W.nsIn K mainGlobals "HOLDER" = some (some (Value.int 4 t_HOLDER)))
    {t_LAST_MOMENT : Tok}
    (g_LAST_MOMENT : PySem.W.nsIn K mainGlobals "LAST_MOMENT" = some (some (Value.int 1000000 t_LAST_MOMENT)))
    {t_LONGEST_NAME : Tok}
    (g_LONGEST_NAME : PySem.W.nsIn K mainGlobals "LONGEST_NAME" = some (some (Value.int 8 t_LONGEST_NAME)))
    {t_MOST_PASSES : Tok}
    (g_MOST_PASSES : PySem.W.nsIn K mainGlobals "MOST_PASSES" = some (some (Value.int 6 t_MOST_PASSES)))
    {t_PASSES : Tok}
    (g_PASSES : PySem.W.nsIn K mainGlobals "PASSES" = some (some (Value.int 7 t_PASSES)))
    {t_ROOM : Tok}
    (g_ROOM : PySem.W.nsIn K mainGlobals "ROOM" = some (some (Value.int 1 t_ROOM)))
    {t_SINCE : Tok}
    (g_SINCE : PySem.W.nsIn K mainGlobals "SINCE" = some (some (Value.int 5 t_SINCE)))
    {t_UNTIL : Tok}
    (g_UNTIL : PySem.W.nsIn K mainGlobals "UNTIL" = some (some (Value.int 6 t_UNTIL)))
    : LawAt l w K 8 63 "script" mg h fa := by
  have T : Txt K mg := ⟨PySem.W.mg_none_of KX G z_all, PySem.W.mg_none_of KX G z_bool, PySem.W.mg_none_of KX G z_enumerate, PySem.W.mg_none_of KX G z_int, PySem.W.mg_none_of KX G z_isinstance, PySem.W.mg_none_of KX G z_len, PySem.W.mg_none_of KX G z_max, PySem.W.mg_none_of KX G z_min, PySem.W.mg_none_of KX G z_range, PySem.W.mg_none_of KX G z_str, PySem.W.mg_none_of KX G z_tuple, ⟨_, _, _, _, PySem.W.mg_of KX G g_ALL_DEEDS, fun _ => ⟨.inr ⟨_, _, _, o_ALL_DEEDS, rfl, rfl, (show 3 ≤ sizeLine by decide), (.cons rfl (.cons rfl (.cons rfl .nil)))⟩, .inr ⟨_, _, _, o0_ALL_DEEDS, rfl, rfl, (show 1 ≤ sizeLine by decide), (.cons ⟨_, rfl⟩ .nil)⟩, .inr ⟨_, _, _, o1_ALL_DEEDS, rfl, rfl, (show 1 ≤ sizeLine by decide), (.cons ⟨_, rfl⟩ .nil)⟩, .inr ⟨_, _, _, o2_ALL_DEEDS, rfl, rfl, (show 2 ≤ sizeLine by decide), (.cons ⟨_, rfl⟩ (.cons ⟨_, rfl⟩ .nil))⟩⟩⟩, ⟨_, PySem.W.mg_of KX G g_DEEDS, ⟨_, rfl⟩⟩, ⟨_, PySem.W.mg_of KX G g_GIVER, ⟨_, rfl⟩⟩, ⟨_, PySem.W.mg_of KX G g_HOLDER, ⟨_, rfl⟩⟩, ⟨_, PySem.W.mg_of KX G g_LAST_MOMENT, ⟨_, rfl⟩⟩, ⟨_, PySem.W.mg_of KX G g_LONGEST_NAME, ⟨_, rfl⟩⟩, ⟨_, PySem.W.mg_of KX G g_MOST_PASSES, ⟨_, rfl⟩⟩, ⟨_, PySem.W.mg_of KX G g_PASSES, ⟨_, rfl⟩⟩, ⟨_, PySem.W.mg_of KX G g_ROOM, ⟨_, rfl⟩⟩, ⟨_, PySem.W.mg_of KX G g_SINCE, ⟨_, rfl⟩⟩, ⟨_, PySem.W.mg_of KX G g_UNTIL, ⟨_, rfl⟩⟩⟩
  have F1 := fun_mk (st := s_is_whole) l1 c1 k1
  have A_is_whole : At K mg "is_whole" s_is_whole ["thing"] := ⟨f1, _, F1, PySem.W.mg_of KX G a1, F1.binds (ps := ["thing"]) fun _ _ _ _ _ _ us hl => match us, hl with | [_], _ => rfl⟩
  have F2 := fun_mk (st := s_is_between) l2 c2 k2
  have A_is_between : At K mg "is_between" s_is_between ["thing", "least", "most"] := ⟨f2, _, F2, PySem.W.mg_of KX G a2, F2.binds (ps := ["thing", "least", "most"]) fun _ _ _ _ _ _ us hl => match us, hl with | [_, _, _], _ => rfl⟩
  have F3 := fun_mk (st := s_is_moment) l3 c3 k3
  have A_is_moment : At K mg "is_moment" s_is_moment ["thing"] := ⟨f3, _, F3, PySem.W.mg_of KX G a3, F3.binds (ps := ["thing"]) fun _ _ _ _ _ _ us hl => match us, hl with | [_], _ => rfl⟩
  have F4 := fun_mk (st := s_is_span) l4 c4 k4
  have A_is_span : At K mg "is_span" s_is_span ["since", "until"] := ⟨f4, _, F4, PySem.W.mg_of KX G a4, F4.binds (ps := ["since", "until"]) fun _ _ _ _ _ _ us hl => match us, hl with | [_, _], _ => rfl⟩
  have F5 := fun_mk (st := s_is_name) l5 c5 k5
  have A_is_name : AtC K mg "is_name" s_is_name ["thing"] cc5 := ⟨f5, _, F5, PySem.W.mg_of KX G a5, (F5.binds (ps := ["thing"]) fun _ _ _ _ _ _ us hl => match us, hl with | [_], _ => rfl), rfl⟩
  have t_is_name := TT "is_name" _ _ _ _ _ _ _ _ _ _ _ j5 (PySem.W.mg_of KX G a5) l5 rfl q5 r5
  have F6 := fun_mk (st := s_is_deeds) l6 c6 k6
  have A_is_deeds : AtC K mg "is_deeds" s_is_deeds ["thing"] cc6 := ⟨f6, _, F6, PySem.W.mg_of KX G a6, (F6.binds (ps := ["thing"]) fun _ _ _ _ _ _ us hl => match us, hl with | [_], _ => rfl), rfl⟩
  have t_is_deeds := TT "is_deeds" _ _ _ _ _ _ _ _ _ _ _ j6 (PySem.W.mg_of KX G a6) l6 rfl q6 r6
  have F7 := fun_mk (st := s_is_leave) l7 c7 k7
  have A_is_leave : At K mg "is_leave" s_is_leave ["thing"] := ⟨f7, _, F7, PySem.W.mg_of KX G a7, F7.binds (ps := ["thing"]) fun _ _ _ _ _ _ us hl => match us, hl with | [_], _ => rfl⟩
  have F8 := fun_mk (st := s_lies_within) l8 c8 k8
  have A_lies_within : AtC K mg "lies_within" s_lies_within ["leave", "other"] cc8 := ⟨f8, _, F8, PySem.W.mg_of KX G a8, (F8.binds (ps := ["leave", "other"]) fun _ _ _ _ _ _ us hl => match us, hl with | [_, _], _ => rfl), rfl⟩
  have t_lies_within := TT "lies_within" _ _ _ _ _ _ _ _ _ _ _ j8 (PySem.W.mg_of KX G a8) l8 rfl q8 r8
  have F9 := fun_mk (st := s__law_urn) l9 c9 k9
  have A__law_urn : At K mg "_law_urn" s__law_urn ["cell", "k"] := ⟨f9, _, F9, PySem.W.mg_of KX G a9, F9.binds (ps := ["cell", "k"]) fun _ _ _ _ _ _ us hl => match us, hl with | [_, _], _ => rfl⟩
  have F10 := fun_mk (st := s__law_lot) l10 c10 k10
  have A__law_lot : At K mg "_law_lot" s__law_lot ["urn", "many"] := ⟨f10, _, F10, PySem.W.mg_of KX G a10, F10.binds (ps := ["urn", "many"]) fun _ _ _ _ _ _ us hl => match us, hl with | [_, _], _ => rfl⟩
  have F11 := fun_mk (st := s__law_named) l11 c11 k11
  have A__law_named : At K mg "_law_named" s__law_named ["urn"] := ⟨f11, _, F11, PySem.W.mg_of KX G a11, F11.binds (ps := ["urn"]) fun _ _ _ _ _ _ us hl => match us, hl with | [_], _ => rfl⟩
  have F12 := fun_mk (st := s__law_leaf) l12 c12 k12
  have A__law_leaf : At K mg "_law_leaf" s__law_leaf ["urn"] := ⟨f12, _, F12, PySem.W.mg_of KX G a12, F12.binds (ps := ["urn"]) fun _ _ _ _ _ _ us hl => match us, hl with | [_], _ => rfl⟩
  have F13 := fun_mk (st := s__law_passed) l13 c13 k13
  have A__law_passed : At K mg "_law_passed" s__law_passed ["urn", "leaf", "names"] := ⟨f13, _, F13, PySem.W.mg_of KX G a13, F13.binds (ps := ["urn", "leaf", "names"]) fun _ _ _ _ _ _ us hl => match us, hl with | [_, _, _], _ => rfl⟩
  have F14 := fun_mk (st := s__law_row) l14 c14 k14
  have A__law_row : At K mg "_law_row" s__law_row ["urn"] := ⟨f14, _, F14, PySem.W.mg_of KX G a14, F14.binds (ps := ["urn"]) fun _ _ _ _ _ _ us hl => match us, hl with | [_], _ => rfl⟩
  have F15 := fun_mk (st := s__law_beyond) l15 c15 k15
  have A__law_beyond : At K mg "_law_beyond" s__law_beyond ["leaf", "other"] := ⟨f15, _, F15, PySem.W.mg_of KX G a15, F15.binds (ps := ["leaf", "other"]) fun _ _ _ _ _ _ us hl => match us, hl with | [_, _], _ => rfl⟩
  have F16 := fun_mk (st := s__law_pair_right) l16 c16 k16
  have A__law_pair_right : At K mg "_law_pair_right" s__law_pair_right ["row", "at"] := ⟨f16, _, F16, PySem.W.mg_of KX G a16, F16.binds (ps := ["row", "at"]) fun _ _ _ _ _ _ us hl => match us, hl with | [_, _], _ => rfl⟩
  have F17 := fun_mk (st := s__law_right) l17 c17 k17
  have A__law_right : At K mg "_law_right" s__law_right ["urn"] := ⟨f17, _, F17, PySem.W.mg_of KX G a17, F17.binds (ps := ["urn"]) fun _ _ _ _ _ _ us hl => match us, hl with | [_], _ => rfl⟩
  have F18 := fun_mk (st := s_law) l18 c18 k18
  have A_law : At K mg "law" s_law ["script"] := ⟨f18, _, F18, PySem.W.mg_of KX G a18, F18.binds (ps := ["script"]) fun _ _ _ _ _ _ us hl => match us, hl with | [_], _ => rfl⟩
  have e := hfa.symm.trans (PySem.W.mg_of KX G a18)
  cases e
  exact glue T A_is_whole A_is_between A_is_moment A_is_span A_is_name A_is_deeds A_is_leave A_lies_within A__law_urn A__law_lot A__law_named A__law_leaf A__law_passed A__law_row A__law_beyond A__law_pair_right A__law_right t_is_name n5 t_is_deeds n6 t_lies_within n8 F18 (fun s v => .of_eq rfl)
--@ARGS a1 l1 c1 k1 a2 l2 c2 k2 a3 l3 c3 k3 a4 l4 c4 k4 a5 l5 c5 k5 j5 q5 r5 n5 a6 l6 c6 k6 j6 q6 r6 n6 a7 l7 c7 k7 a8 l8 c8 k8 j8 q8 r8 n8 a9 l9 c9 k9 a10 l10 c10 k10 a11 l11 c11 k11 a12 l12 c12 k12 a13 l13 c13 k13 a14 l14 c14 k14 a15 l15 c15 k15 a16 l16 c16 k16 a17 l17 c17 k17 a18 l18 c18 k18 z_all z_bool z_enumerate z_int z_isinstance z_len z_max z_min z_range z_str z_tuple g_ALL_DEEDS o_ALL_DEEDS o0_ALL_DEEDS o1_ALL_DEEDS o2_ALL_DEEDS g_DEEDS g_GIVER g_HOLDER g_LAST_MOMENT g_LONGEST_NAME g_MOST_PASSES g_PASSES g_ROOM g_SINCE g_UNTIL
end K10
open PySem PySem.W PyProof.Rows
set_option maxRecDepth 100000 in
set_option maxHeartbeats 0 in
theorem PySem.Challenge.cw_leavechain_k10_whole_passed_on_holds : PySem.Challenge.rw_leavechain_k10_whole_passed_on.Holds := by
  w_on; o_law; k_head; (case hw => w_witness2)
  k_fill
  refine Lk.walkX (l := PySem.Challenge.rw_leavechain_k10_whole_passed_on) (n := 63) (k := 8) (x := "script") rfl (by decide) rfl ⟨rfl, by decide, by decide⟩ (fun w h Y => PySem.W.kIn_of Y) ?F
  case F =>
    intro w mg mb fa s0 h Gr Y KX G hmg
    refine' K10.all_mk KX G hmg (Lk.tabs_of Gr KX) ?a1 ?l1 ?c1 ?k1 ?a2 ?l2 ?c2 ?k2 ?a3 ?l3 ?c3 ?k3 ?a4 ?l4 ?c4 ?k4 ?a5 ?l5 ?c5 ?k5 ?j5 ?q5 ?r5 ?n5 ?a6 ?l6 ?c6 ?k6 ?j6 ?q6 ?r6 ?n6 ?a7 ?l7 ?c7 ?k7 ?a8 ?l8 ?c8 ?k8 ?j8 ?q8 ?r8 ?n8 ?a9 ?l9 ?c9 ?k9 ?a10 ?l10 ?c10 ?k10 ?a11 ?l11 ?c11 ?k11 ?a12 ?l12 ?c12 ?k12 ?a13 ?l13 ?c13 ?k13 ?a14 ?l14 ?c14 ?k14 ?a15 ?l15 ?c15 ?k15 ?a16 ?l16 ?c16 ?k16 ?a17 ?l17 ?c17 ?k17 ?a18 ?l18 ?c18 ?k18 ?z_all ?z_bool ?z_enumerate ?z_int ?z_isinstance ?z_len ?z_max ?z_min ?z_range ?z_str ?z_tuple ?g_ALL_DEEDS ?o_ALL_DEEDS ?o0_ALL_DEEDS ?o1_ALL_DEEDS ?o2_ALL_DEEDS ?g_DEEDS ?g_GIVER ?g_HOLDER ?g_LAST_MOMENT ?g_LONGEST_NAME ?g_MOST_PASSES ?g_PASSES ?g_ROOM ?g_SINCE ?g_UNTIL
    (case a1 => k_is); (case l1 => k_is); (case c1 => k_is); (case k1 => k_is); (case a2 => k_is); (case l2 => k_is)
    (case c2 => k_is); (case k2 => k_is); (case a3 => k_is); (case l3 => k_is); (case c3 => k_is); (case k3 => k_is)
    (case a4 => k_is); (case l4 => k_is); (case c4 => k_is); (case k4 => k_is); (case a5 => k_is); (case l5 => k_is)
    (case c5 => k_is); (case k5 => k_is); (case j5 => first | rfl | decide +kernel); (case q5 => k_is); (case r5 => rfl); (case n5 => first | rfl | decide +kernel | k_is)
    (case a6 => k_is); (case l6 => k_is); (case c6 => k_is); (case k6 => k_is); (case j6 => first | rfl | decide +kernel); (case q6 => k_is)
    (case r6 => rfl); (case n6 => first | rfl | decide +kernel | k_is); (case a7 => k_is); (case l7 => k_is); (case c7 => k_is); (case k7 => k_is)
    (case a8 => k_is); (case l8 => k_is); (case c8 => k_is); (case k8 => k_is); (case j8 => first | rfl | decide +kernel); (case q8 => k_is)
    (case r8 => rfl); (case n8 => first | rfl | decide +kernel | k_is); (case a9 => k_is); (case l9 => k_is); (case c9 => k_is); (case k9 => k_is)
    (case a10 => k_is); (case l10 => k_is); (case c10 => k_is); (case k10 => k_is); (case a11 => k_is); (case l11 => k_is)
    (case c11 => k_is); (case k11 => k_is); (case a12 => k_is); (case l12 => k_is); (case c12 => k_is); (case k12 => k_is)
    (case a13 => k_is); (case l13 => k_is); (case c13 => k_is); (case k13 => k_is); (case a14 => k_is); (case l14 => k_is)
    (case c14 => k_is); (case k14 => k_is); (case a15 => k_is); (case l15 => k_is); (case c15 => k_is); (case k15 => k_is)
    (case a16 => k_is); (case l16 => k_is); (case c16 => k_is); (case k16 => k_is); (case a17 => k_is); (case l17 => k_is)
    (case c17 => k_is); (case k17 => k_is); (case a18 => k_is); (case l18 => k_is); (case c18 => k_is); (case k18 => k_is)
    (case z_all => k_is); (case z_bool => k_is); (case z_enumerate => k_is); (case z_int => k_is); (case z_isinstance => k_is); (case z_len => k_is)
    (case z_max => k_is); (case z_min => k_is); (case z_range => k_is); (case z_str => k_is); (case z_tuple => k_is); (case g_ALL_DEEDS => k_is)
    (case o_ALL_DEEDS => k_is); (case o0_ALL_DEEDS => k_is); (case o1_ALL_DEEDS => k_is); (case o2_ALL_DEEDS => k_is); (case g_DEEDS => k_is); (case g_GIVER => k_is)
    (case g_HOLDER => k_is); (case g_LAST_MOMENT => k_is); (case g_LONGEST_NAME => k_is); (case g_MOST_PASSES => k_is); (case g_PASSES => k_is); (case g_ROOM => k_is)
    (case g_SINCE => k_is); (case g_UNTIL => k_is)

