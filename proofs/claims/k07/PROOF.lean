import PyProof.Rows.All
import Wide.All
import OpenK.AllK
import Wide.FinOn
import HandS.ForMost
import HandS.Codes
import HandS.Evl
import HandS.FStr
import HandS.Wide
import HandS.Zip
import HandS.RaiseMore
import HandS.IsInst
import HandS.EndOwn
import HandS.AnyAll
import PySem.Challenge.RW_leavechain_k07_leaves_written
set_option Elab.async false
set_option linter.all false
set_option maxRecDepth 100000
set_option maxHeartbeats 4000000
namespace Lk
open PySem PySem.Spec PyProof.Rows L2 Evl

/-! ### defs as they stand behind the top -/
/-- a def that may be called by its name, with its promise -/
structure Cal (P : Program) (w : World) (K : PySem.W.Frag) (mg : Str → Option Value) (base : Heap) (k : Nat) (x : Str) (sp : Sp) : Prop where
  ex : ∃ (f : Addr) (fd : FuncData) (ps : List Str), FnOk P w K mg base CX0 k f fd ps sp ∧ mg x = some (.ref f) ∧ PySem.W.keepIn K (.ref f) = true ∧ Binds K fd ps []
/-- the def x of the text: it stands at a known place, binds its parameters by place and by all their names -/
structure At (K : PySem.W.Frag) (mg : Str → Option Value) (x : Str) (st : Stmt) (ps : List Str) : Prop where
  ex : ∃ f fd, Fun K x x st f fd ∧ mg x = some (.ref f) ∧ Binds K fd ps []
/-- .. and by keywords alone -/
structure CalK (P : Program) (w : World) (K : PySem.W.Frag) (mg : Str → Option Value) (base : Heap) (k : Nat) (x : Str) (sp : Sp) (ks : List Str) : Prop where
  ex : ∃ (f : Addr) (fd : FuncData), FnOk P w K mg base CX0 k f fd ks sp ∧ mg x = some (.ref f) ∧ PySem.W.keepIn K (.ref f) = true ∧
    ∀ (s : Shared) (ws : List Value), ws.length = ks.length → BindsTo s fd ⟨[], ks.zip ws⟩ (ks.zip ws)
section
variable {P : Program} {w : World} {K : PySem.W.Frag} {mg : Str → Option Value} {base : Heap}
theorem At.cal {x : Str} {st : Stmt} {N ps : List Str} {k : Nat} {sp : Sp} (F : At K mg x st ps) (S : FnScope N ps (defScope st)) (len : ∀ vs H Q E, sp vs H Q E → vs.length = ps.length)
    (hbody : ∀ (f : Addr) (cdv : Value) (A : Around) (outer : List Env) (s : Shared) (H : Hp) (vs : List V) (Q : VK) (E : XK), Room k (A.deeper (envOfC x (defScope st) s.heap.objs.size f cdv)) → sp vs H Q E →
      ∃ t, PSs (cxOf CX0 P w K mg base N x (defScope st) f cdv A outer s H E).nox (defBody st) t ∧ t { nx := fun _ H' => Q .non H', rt := Q } (start N vs) H) : Cal P w K mg base (k + 1) x sp := by
  obtain ⟨f, fd, F1, g, b⟩ := F.ex
  exact ⟨⟨f, fd, ps, F1.ok S len (hbody f), g, F1.kp, b⟩⟩
end
structure AtK (K : PySem.W.Frag) (mg : Str → Option Value) (x : Str) (st : Stmt) (ps : List Str) : Prop where
  ex : ∃ f fd, Fun K x x st f fd ∧ mg x = some (.ref f) ∧ ∀ (s : Shared) (ws : List Value), ws.length = ps.length → BindsTo s fd ⟨[], ps.zip ws⟩ (ps.zip ws)
section
variable {P : Program} {w : World} {K : PySem.W.Frag} {mg : Str → Option Value} {base : Heap} {x : Str} {st : Stmt} {ps : List Str} {k : Nat} {sp : Sp}
theorem fn_ok {N : List Str} {f : Addr} {fd : FuncData} (F : Fun K x x st f fd) (S : FnScope N ps (defScope st)) (len : ∀ vs H Q E, sp vs H Q E → vs.length = ps.length)
    (hbody : ∀ (cdv : Value) (A : Around) (outer : List Env) (s : Shared) (H : Hp) (vs : List V) (Q : VK) (E : XK), Room k (A.deeper (envOfC x (defScope st) s.heap.objs.size f cdv)) → sp vs H Q E →
      ∃ t σ, start N vs = σ ∧ PSs (cxOf CX0 P w K mg base N x (defScope st) f cdv A outer s H E).nox (defBody st) t ∧ t { nx := fun _ H' => Q .non H', rt := Q } σ H) : FnOk P w K mg base CX0 (k + 1) f fd ps sp :=
  F.ok S len fun cdv A outer s H vs Q E hr h => by
    obtain ⟨t, σ, e, a, b⟩ := hbody cdv A outer s H vs Q E hr h
    subst e
    exact ⟨t, a, b⟩
theorem At.of (A : At K mg x st ps) (h : ∀ f fd, Fun K x x st f fd → FnOk P w K mg base CX0 k f fd ps sp) : Cal P w K mg base k x sp := by
  obtain ⟨f, fd, F1, g, b⟩ := A.ex
  exact ⟨⟨f, fd, ps, h f fd F1, g, F1.kp, b⟩⟩
theorem AtK.of (A : AtK K mg x st ps) (h : ∀ f fd, Fun K x x st f fd → FnOk P w K mg base CX0 k f fd ps sp) : CalK P w K mg base k x sp ps := by
  obtain ⟨f, fd, F1, g, b⟩ := A.ex
  exact ⟨⟨f, fd, h f fd F1, g, F1.kp, b⟩⟩
end
section
variable {X : Cx} {k j : Nat} {x : Str} {sp : Sp} {p pos : Pos} {kws : List Keyword} {ks : List Str} {tk : TA}
theorem pe_c {e : Expr} {es : List Expr} {t : TA} (c : Cal X.prog X.w X.K X.mg X.base k x sp) (hr : Room j X.A) (hk : k ≤ j) (hg : Gl X x) (ha : PA X (e :: es) t)
    (hdb : (x == ("__debug__" : Str)) = false := by decide) (he : starEach (e :: es) X.env = (false, eval e X.env) :: starEach es X.env := by rfl) (hpl : (backTo pos (starEach es X.env)).any (·.1) = false := by rfl) :
    PE X (.Call (.Name x p) (e :: es) [] pos) (tCall sp [] E0 t) := by
  obtain ⟨f, fd, ps, F, hm, kp, b⟩ := c.ex
  exact pe_call F (hr.mono hk) hg hm kp b .nil pass0 ha hdb he hpl
def tCallKw (m : Nat) (sp : Sp) (t : TA) : TE := fun σ H Q => t σ H fun zs H2 => zs.length = m ∧ sp zs H2 Q E0
theorem pe_ck (c : CalK X.prog X.w X.K X.mg X.base k x sp ks) (hr : Room j X.A) (hk : k ≤ j) (hg : Gl X x) (hkw : PK X kws tk)
    (hall : (backToKw pos (keywordEach kws X.env)).all (·.1.isSome) = true := by rfl) (hks : (backToKw pos (keywordEach kws X.env)).filterMap (·.1) = ks := by rfl) (hdb : (x == ("__debug__" : Str)) = false := by decide)
    (hpl : ((backTo pos (starEach [] X.env)).any (·.1) || (backToKw pos (keywordEach kws X.env)).any (·.1.isNone)) = false := by rfl) :
    PE X (.Call (.Name x p) [] kws pos) (tCallKw ks.length sp tk) := by
  obtain ⟨f, fd, F, hm, kp, b⟩ := c.ex
  refine ⟨fun pins s σ H Q I h => ?_⟩
  refine wpAny_Call_Name_kw (ld_glob I hg hm ?_ hdb)
  refine PySem.W.callWith_KW0 (h₀ := X.base) I.ok.mod.kin kp hall ?_ hpl
  refine thn (hkw.run pos pins s σ H _ I h) fun ws s2 ⟨zs, H2, I2, rz, l2, q2⟩ => ⟨I2.kIn, ?_⟩
  rw [hks]
  refine wpAny_call (codeAny_mono (F.run X.A X.stack s2 H2 ⟨[], ks.zip ws⟩ ws zs Q E0 (hr.mono hk) I2.env0 (b s2 ws (rz.length.symm.trans l2)) rz q2) fun r s' hq => ?_)
  cases r with
  | error e => exact False.elim hq
  | ok fl =>
    cases fl with
    | ret u => exact I2.after hq
    | next => exact False.elim hq
    | brk => exact False.elim hq
    | cont => exact False.elim hq
end

/-! ### operators that the layer lacks -/
def CPowW (i j : Int) : Prop := 0 ≤ j ∧ (Builtin.Int.intBits i : Int) * j ≤ 2 ^ 27
section
variable {X : Cx}
theorem op_powW : OpR X (binaryOp .Pow) (rI CPowW fun i j => .int (i ^ j.toNat)) := opI fun _ _ _ _ _ _ _ hc q => pow_int hc.1 hc.2 q
theorem pow_ok {i j : Int} {a : Nat} (ha : i.natAbs < 2 ^ a) (h0 : 0 < a) (hj : 0 ≤ j) (h : (a : Int) * j ≤ 2 ^ 27) : CPowW i j := by
  refine ⟨hj, ?_⟩
  have b : Builtin.Int.intBits i ≤ i.natAbs.log2 + 1 := by
    unfold Builtin.Int.intBits
    split <;> omega
  have l := PySem.Flt.log2_lt_of h0 ha
  have e : Builtin.Int.intBits i ≤ a := by omega
  exact Int.le_trans (Int.mul_le_mul_of_nonneg_right (by omega) hj) h

/-- xs[i] op= e -/
def rGetL (K : PySem.W.Frag) : V → V → Hp → VK → Prop := fun x y H Q => ∃ p xs i v, x = .ref p ∧ y = .int i ∧ SqL K H p xs ∧ 0 ≤ i ∧ xs[i.toNat]? = some v ∧ Q v H
theorem get_list : PGet X (rGetL X.K) := by
  intro pins s σ H x y ov iv Q I rx ry h
  obtain ⟨p, xs, i, z, e1, e2, hq, h0, he, q⟩ := h
  subst e1
  subst e2
  cases rx
  obtain ⟨t, rfl⟩ := ry
  obtain ⟨its, r, pl, hz⟩ := I.list hq
  obtain ⟨w, ew, rw'⟩ := r.get he
  have hl := r.length
  have hn := line63
  have hi : i.toNat < xs.length := (List.getElem?_eq_some_iff.mp he).1
  exact wpAny_getItem_list pl.isList h0 (by omega) (by simpa using ew) ⟨z, H, I, rw', q⟩
theorem ps_augL {o i e : Expr} {to ti te : TE} {tip : TIp} {op : Operator} {tpos pos : Pos} (ho : PE X o to) (hi : PE X i ti) (he : PE X e te) (hp : PIp X op tip)
    (ha : ∀ ov iv new, augStore i ov iv new = (do holding [new, ov, iv] (setItem ov iv new); release [new, ov, iv] []; pure .next) := by intros; rfl) : PS X (.AugAssign (.Subscript o i tpos) op e pos) (tAugS to ti te (rGetL X.K) tip rSetL) :=
  ps_augS ho hi get_list he hp set_list ha
end

/-! ### readings step by step: what is wanted stays folded -/
/-- a new list, a new tuple -/
def NewL (Q : VK) (xs : List V) (H : Hp) : Prop := xs.length ≤ sizeLine ∧ ∀ p, H p = none → Q (.ref p) (upd H p (.lst xs))
def NewT (Q : VK) (xs : List V) (H : Hp) : Prop := xs.length ≤ sizeLine ∧ ∀ p, H p = none → Q (.ref p) (upd H p (.tup xs))
section
variable {K : PySem.W.Frag} {σ : L2.St} {H : Hp} {Q : VK} {x y v : V} {ta tb te : TE} {tt tu : TT} {QB : Bool → Hp → Prop} {QA : List V → Hp → Prop} {D : Ends} {t1 t2 : TS} {tr : TA}
theorem g_var {i : Nat} (h : σ[i]? = some (some v)) (q : Q v H) : tVar i σ H Q := ⟨v, h, q⟩
theorem g_c (q : Q v H) : tC v σ H Q := q
theorem g_op {r : R2} (h : ta σ H fun x H1 => tb σ H1 fun y H2 => r x y H2 Q) : tOp r ta tb σ H Q := h
theorem g_un {r : V → Hp → VK → Prop} (h : ta σ H fun x H1 => r x H1 Q) : tUn r ta σ H Q := h
theorem g_I0 {g : Int → Int → V} {i j : Int} (q : Q (g i j) H) : rI0 g (.int i) (.int j) H Q := ⟨i, j, rfl, rfl, q⟩
theorem g_I {C : Int → Int → Prop} {g : Int → Int → V} {i j : Int} (c : C i j) (q : Q (g i j) H) : rI C g (.int i) (.int j) H Q := ⟨i, j, rfl, rfl, c, q⟩
theorem g_U {g : Int → V} {i : Int} (q : Q (g i) H) : rU g (.int i) H Q := ⟨i, rfl, q⟩
theorem g_Eq (h : scal x y = true) (q : Q (.bl (decide (x = y))) H) : rEq x y H Q := ⟨h, q⟩
theorem g_Ne (h : scal x y = true) (q : Q (.bl (!decide (x = y))) H) : rNe x y H Q := ⟨h, q⟩
theorem g_test (h : te σ H fun x H' => ∃ k, x = .bl k ∧ QB k H') : tTest te σ H QB := h
theorem g_B (h : te σ H fun x H' => ∃ k, x = .bl k ∧ QB k H') : tB te σ H QB := h
theorem g_bl {b : Bool} (q : QB b H) : ∃ k, V.bl b = .bl k ∧ QB k H := ⟨b, rfl, q⟩
theorem g_and (h : tt σ H fun c H1 => if c = true then tu σ H1 QB else QB false H1) : tAnd tt tu σ H QB := h
theorem g_or (h : tt σ H fun c H1 => if c = true then QB true H1 else tu σ H1 QB) : tOr tt tu σ H QB := h
theorem g_not (h : tt σ H fun c H1 => QB (!c) H1) : tNot tt σ H QB := h
theorem g_andV (h : ta σ H fun x H1 => ∃ c, x = .bl c ∧ if c = true then tb σ H1 Q else Q (.bl false) H1) : tAndV ta tb σ H Q := h
theorem g_orV (h : ta σ H fun x H1 => ∃ c, x = .bl c ∧ if c = true then Q (.bl true) H1 else tb σ H1 Q) : tOrV ta tb σ H Q := h
theorem g_notV (h : ta σ H fun x H1 => ∃ c, x = .bl c ∧ Q (.bl (!c)) H1) : tNotV ta σ H Q := h
theorem g_blV {b : Bool} {R : Bool → Prop} (q : R b) : ∃ k, V.bl b = .bl k ∧ R k := ⟨b, rfl, q⟩
theorem g_if (h : tt σ H fun c H1 => if c = true then ta σ H1 Q else tb σ H1 Q) : tIf tt ta tb σ H Q := h
theorem g_nil (q : QA [] H) : tNil σ H QA := q
theorem g_cons (h : te σ H fun x H1 => tr σ H1 fun xs H2 => QA (x :: xs) H2) : tCons te tr σ H QA := h
theorem g_call {sp : Sp} {dvs : List V} {E : XK} (h : tr σ H fun vs H1 => sp (vs ++ dvs) H1 Q E) : tCall sp dvs E tr σ H Q := h
theorem g_cb {r : List V → Hp → VK → Prop} (h : tr σ H fun vs H1 => r vs H1 Q) : tCB r tr σ H Q := h
theorem g_tup (h : tr σ H fun xs H1 => NewT Q xs H1) : tTup tr σ H Q := h
theorem g_lst (h : tr σ H fun xs H1 => NewL Q xs H1) : tLst tr σ H Q := h
theorem g_seq (h : t1 { D with nx := t2 D } σ H) : tSeq t1 t2 D σ H := h
theorem g_asg {i : Nat} (h : te σ H fun x H1 => D.nx (σ.set i (some x)) H1) : tAsg te (gName i) D σ H := h
theorem g_asgG {g : TG} (h : te σ H fun x H1 => g x σ H1 D.nx) : tAsg te g D σ H := h
theorem g_ifS (h : tt σ H fun b H1 => if b = true then t1 D σ H1 else t2 D σ H1) : tIfS tt t1 t2 D σ H := h
theorem g_ret (h : te σ H D.rt) : tRet te D σ H := h
theorem g_drop (h : te σ H fun _ H1 => D.nx σ H1) : tDrop te D σ H := h
theorem g_next (h : D.nx σ H) : tNext D σ H := h
theorem g_aug {i : Nat} {tip : TIp} (hx : σ[i]? = some (some x)) (h : te σ H fun y H1 => tip x y H1 fun z H2 => D.nx (σ.set i (some z)) H2) : tAug i te tip D σ H := ⟨x, hx, h⟩
theorem g_ipI {f : Int → Int → Int} {i j : Int} (q : Q (.int (f i j)) H) : ipI f (.int i) (.int j) H Q := ⟨i, j, rfl, rfl, q⟩
theorem g_name {i : Nat} {R : L2.St → Hp → Prop} (q : R (σ.set i (some x)) H) : gName i x σ H R := q
theorem g_M1 {r : V → List V → Hp → VK → Prop} (h : ta σ H fun x H1 => (∃ a, x = .str a) ∧ tb σ H1 fun y H2 => r x [y] H2 Q) : tM1 r ta tb σ H Q := h
theorem g_M0 {r : V → List V → Hp → VK → Prop} (h : ta σ H fun x H1 => (∃ a, x = .str a) ∧ r x [] H1 Q) : tM0 r ta σ H Q := h
theorem g_yes (q : QB true H) : tYes σ H QB := q
theorem g_sl {r : V → Option Int → Option Int → Hp → VK → Prop} {tl th : TO} (h : te σ H fun x H1 => tl σ H1 fun l H2 => th σ H2 fun u H3 => r x l u H3 Q) : tSl r te tl th σ H Q := h
theorem g_nopart {QO : Option Int → Hp → Prop} (q : QO none H) : tNoPart σ H QO := q
theorem g_part {QO : Option Int → Hp → Prop} (h : te σ H fun x H1 => ∃ i, x = .int i ∧ QO (some i) H1) : tPart te σ H QO := h
theorem g_intV {i : Int} {R : Int → Prop} (q : R i) : ∃ k, V.int i = .int k ∧ R k := ⟨i, rfl, q⟩
end

/-! ### heaps: all is kept, or all but what stands at u -/
def Kp (u : Addr) (H H' : Hp) : Prop := ∀ a o, a ≠ u → H a = some o → H' a = some o
def IsX (u : Addr) (H : Hp) : Prop := ∃ φ, H u = some (.ext φ)
theorem Kp.refl (u : Addr) (H : Hp) : Kp u H H := fun _ _ _ h => h
theorem Kp.trans {u : Addr} {H H1 H2 : Hp} (a : Kp u H H1) (b : Kp u H1 H2) : Kp u H H2 := fun x o n h => b x o n (a x o n h)
theorem Kp.of {u : Addr} {H H1 : Hp} (a : Ex H H1) : Kp u H H1 := fun x o _ h => a x o h
theorem Kp.fresh {u p : Addr} {H H1 : Hp} (k : Kp u H H1) (hu : IsX u H) (h : H1 p = none) (hu1 : IsX u H1) : H p = none := by
  cases e : H p with
  | none => rfl
  | some o =>
    by_cases n : p = u
    · obtain ⟨φ, z⟩ := hu1
      rw [n] at h
      rw [h] at z
      cases z
    · rw [k p o n e] at h
      cases h
section
variable {K : PySem.W.Frag} {u a : Addr} {H H' : Hp} {xs : List V}
theorem kp_lst (k : Kp u H H') (x : IsX u H) (h : H a = some (.lst xs)) : H' a = some (.lst xs) := by
  obtain ⟨φ, z⟩ := x
  exact k a _ (ne_of h z (by intro e; cases e)) h
theorem kp_tup (k : Kp u H H') (x : IsX u H) (h : H a = some (.tup xs)) : H' a = some (.tup xs) := by
  obtain ⟨φ, z⟩ := x
  exact k a _ (ne_of h z (by intro e; cases e)) h
theorem kp_dK {kvs : List (Key × V)} (k : Kp u H H') (x : IsX u H) (h : H a = some (.dK kvs)) : H' a = some (.dK kvs) := by
  obtain ⟨φ, z⟩ := x
  exact k a _ (ne_of h z (by intro e; cases e)) h
theorem kp_l (k : Kp u H H') (x : IsX u H) (h : SqL K H a xs) : SqL K H' a xs := by
  obtain ⟨φ, z⟩ := x
  rcases h with (h | ⟨o, h⟩) | h
  · exact .inl (.inl (k a _ (ne_of h z (by intro e; cases e)) h))
  · exact .inl (.inr ⟨o, k a _ (ne_of h z (by intro e; cases e)) h⟩)
  · exact .inr h
theorem kp_t (k : Kp u H H') (x : IsX u H) (h : SqT K H a xs) : SqT K H' a xs := by
  obtain ⟨φ, z⟩ := x
  rcases h with (h | ⟨o, h⟩) | h
  · exact .inl (.inl (k a _ (ne_of h z (by intro e; cases e)) h))
  · exact .inl (.inr ⟨o, k a _ (ne_of h z (by intro e; cases e)) h⟩)
  · exact .inr h
end

/-! ### the urn: three ints of which only bounds are known -/
def UrnPhi (u : Addr) (p : Int → Int → Int → Prop) (h : Heap) : Prop :=
  ∃ (its : List Value) (m : Nat) (a b c : Int), Vals [V.int a, .int b, .int c] its ∧ h.get? u = some { cls := .type "list", data := .seq its.toArray m } ∧ p a b c
def UrnO (u : Addr) (p : Int → Int → Int → Prop) : HO := .ext (UrnPhi u p)
section
variable {X : Cx} {pins : List (Addr × Obj)} {σ : L2.St} {H : Hp} {s : Shared} {u : Addr} {o : HO} {p : Int → Int → Int → Prop}
theorem inv_conv (I : Inv X pins σ H s) (mu : Mut (H u)) (there : ∃ ob, s.heap.get? u = some ob) (new : ObjOk X.prog X.w (upd H u o) s.heap u o) : Inv X pins σ (upd H u o) s :=
  I.write (h' := s.heap) (t' := s.toks) mu (.inl rfl) (fun _ _ _ e => e) there new
theorem inv_open (I : Inv X pins σ H s) (h : H u = some (UrnO u p)) : ∃ a b c : Int, p a b c ∧ Inv X pins σ (upd H u (.lst [.int a, .int b, .int c])) s := by
  obtain ⟨⟨its, m, a, b, c, r, e, hp⟩, _, _⟩ := I.hok u _ h
  exact ⟨a, b, c, hp, inv_conv I (by rw [h]; trivial) ⟨_, e⟩ ⟨by show 3 ≤ sizeLine; decide, its, m, r, e⟩⟩
theorem inv_close (I : Inv X pins σ H s) {a b c : Int} (h : H u = some (.lst [.int a, .int b, .int c])) (hp : p a b c) : Inv X pins σ (upd H u (UrnO u p)) s := by
  obtain ⟨_, its, m, r, e⟩ := I.hok u _ h
  refine inv_conv I (by rw [h]; trivial) ⟨_, e⟩ ⟨⟨its, m, a, b, c, r, e, hp⟩, ⟨_, e⟩, ?_⟩
  rintro h1 h2 ⟨its, m, a, b, c, r, e, hp⟩ k
  exact ⟨its, m, a, b, c, r, k _ e, hp⟩
def tOpen (u : Addr) (p : Int → Int → Int → Prop) (t : TS) : TS := fun D σ H => H u = some (UrnO u p) ∧ ∀ a b c H1, p a b c → H1 u = some (.lst [.int a, .int b, .int c]) → Kp u H H1 → t D σ H1
theorem pss_open {sts : List Stmt} {t : TS} (u : Addr) (p : Int → Int → Int → Prop) (h : PSs X sts t) : PSs X sts (tOpen u p t) := ⟨fun pins s σ H D I q => by
  obtain ⟨hu, q⟩ := q
  obtain ⟨a, b, c, hp, I1⟩ := inv_open I hu
  exact h.run pins s σ _ D I1 (q a b c _ hp upd_same (fun x o n e => by rw [upd_ne n]; exact e))⟩
/-- return e, the urn closed again -/
def tRetU (te : TE) : TS := fun D σ H => te σ H fun v H1 => ∃ (u : Addr) (p : Int → Int → Int → Prop) (a b c : Int), H1 u = some (.lst [.int a, .int b, .int c]) ∧ p a b c ∧ ∀ H2, H2 u = some (UrnO u p) → Kp u H1 H2 → D.rt v H2
theorem ps_retU {e : Expr} {te : TE} {pos : Pos} (he : PE X e te) : PS X (.Return (some e) pos) (tRetU te) := by
  refine ⟨fun pins s σ H D I h => ?_⟩
  refine wpAny_Return_some (thn (he.run pins s σ H _ I h) fun v s1 ⟨x, H1, I1, r1, q1⟩ => ?_)
  obtain ⟨u, p, a, b, c, hu, hp, q⟩ := q1
  exact ⟨x, σ, _, inv_close I1 hu hp, r1, q _ upd_same (fun y o n e => by rw [upd_ne n]; exact e)⟩
end
section
variable {K : PySem.W.Frag} {σ : L2.St} {H : Hp} {Q : VK} {x y v : V} {ta tb te : TE} {D : Ends} {tr : TA} {p : Addr} {xs : List V}
theorem g_ixL {i : Int} (h : SqL K H p xs) (ha : atI xs i = some v) (q : Q v H) : rIxL K (.ref p) (.int i) H Q := ⟨p, xs, i, v, rfl, rfl, h, ha, q⟩
theorem g_ixT {i : Int} (h : SqT K H p xs) (ha : atI xs i = some v) (q : Q v H) : rIxT K (.ref p) (.int i) H Q := ⟨p, xs, i, v, rfl, rfl, h, ha, q⟩
theorem g_getL {i : Int} (h : SqL K H p xs) (h0 : 0 ≤ i) (ha : xs[i.toNat]? = some v) (q : Q v H) : rGetL K (.ref p) (.int i) H Q := ⟨p, xs, i, v, rfl, rfl, h, h0, ha, q⟩
theorem g_retU (h : te σ H fun v H1 => ∃ (u : Addr) (p : Int → Int → Int → Prop) (a b c : Int), H1 u = some (.lst [.int a, .int b, .int c]) ∧ p a b c ∧ ∀ H2, H2 u = some (UrnO u p) → Kp u H1 H2 → D.rt v H2) : tRetU te D σ H := h
theorem g_setL {i : Int} {j : Nat} {R : Hp → Prop} (h : H p = some (.lst xs)) (hi : ixN xs.length i = some j) (q : ∀ H2, H2 p = some (.lst (xs.set j v)) → Kp p H H2 → R H2) : rSetL (.ref p) (.int i) v H R :=
  ⟨p, xs, i, j, rfl, rfl, h, hi, q _ upd_same (fun x o n e => by rw [upd_ne n]; exact e)⟩
theorem g_sub {ti : TE} {ts : TSet} {R : L2.St → Hp → Prop} (h : ta σ H fun o H1 => ti σ H1 fun i H2 => ts o i x H2 fun H3 => R σ H3) : gSub ta ti ts x σ H R := h
theorem g_augS {ti : TE} {tget : V → V → Hp → VK → Prop} {tip : TIp} {ts : TSet} (h : ta σ H fun o H1 => ti σ H1 fun i H2 => tget o i H2 fun x H3 => te σ H3 fun y H4 => tip x y H4 fun z H5 => ts o i z H5 fun H6 => D.nx σ H6) : tAugS ta ti te tget tip ts D σ H := h
/-- a new object -/
theorem g_newL (h : xs.length ≤ sizeLine) (q : ∀ p H2, H p = none → Ex H H2 → H2 p = some (.lst xs) → Q (.ref p) H2) : NewL Q xs H := ⟨h, fun p np => q p _ np (Ex.new np) upd_same⟩
theorem g_newT (h : xs.length ≤ sizeLine) (q : ∀ p H2, H p = none → Ex H H2 → H2 p = some (.tup xs) → Q (.ref p) H2) : NewT Q xs H := ⟨h, fun p np => q p _ np (Ex.new np) upd_same⟩
theorem small_sz {n : Nat} (h : n ≤ 1000 := by decide) : n ≤ sizeLine := Nat.le_trans h (by decide)
end
/-! ### the draws of the first laws -/
theorem lot_bound {x M c : Int} (hM : 0 < M) (h2 : M ≤ 2 ^ 130) (hc : 0 ≤ c) (hc2 : c ≤ 100001) : (x % M + 15485863 * c * c).natAbs < 2 ^ 140 := by
  have a := Int.emod_nonneg x (show M ≠ 0 by omega)
  have b := Int.emod_lt_of_pos x hM
  have e : 0 ≤ c * c := Int.mul_nonneg hc hc
  have f : c * c ≤ 100001 * 100001 := Int.mul_le_mul hc2 hc2 hc (by decide)
  rw [Int.mul_assoc]
  omega

/-! ### the urn behind n draws at most -/
abbrev UP := Nat → Int → Int → Int → Prop
def UA (p : UP) (u : Addr) (n : Nat) (H : Hp) : Prop := ∃ m, m ≤ n ∧ H u = some (UrnO u (p m))
section
variable {p : UP} {u : Addr} {n m : Nat} {H H' : Hp}
theorem UA.mono (h : UA p u n H) (e : n ≤ m) : UA p u m H := let ⟨k, a, b⟩ := h; ⟨k, by omega, b⟩
theorem UA.ix (h : UA p u n H) : IsX u H := let ⟨_, _, b⟩ := h; ⟨_, b⟩
theorem UA.ex (h : UA p u n H) (e : Ex H H') : UA p u n H' := let ⟨k, a, b⟩ := h; ⟨k, a, e _ _ b⟩
theorem UA.ex' (e : Ex H H') (h : UA p u n H) : UA p u n H' := h.ex e
theorem UA.ne (h : UA p u n H) {x : Addr} (e : H x = none) : x ≠ u := let ⟨_, _, b⟩ := h; fun z => by rw [z, b] at e; cases e
theorem UA.nel (h : UA p u n H) {x : Addr} {xs : List V} (e : H x = some (.lst xs)) : x ≠ u := let ⟨_, _, b⟩ := h; ne_of e b (by intro z; cases z)
theorem UA.upd (h : UA p u n H) {x : Addr} {o : HO} (e : x ≠ u) : UA p u n (upd H x o) := let ⟨k, a, b⟩ := h; ⟨k, a, by rw [upd_ne e.symm]; exact b⟩
theorem Kp.upd {x : Addr} {o : HO} {H0 : Hp} (k : Kp u H0 H) (e : H0 x = none) : Kp u H0 (upd H x o) := fun y z n h => by
  rw [upd_ne (ne_of_none h e)]
  exact k y z n h
theorem UA.nil (h : UA p u n H) (k : Kp u H H') (h2 : UA p u m H') {x : Addr} (e : H' x = none) : H x = none := k.fresh h.ix e h2.ix
end
theorem ex_lst {H H' : Hp} {a : Addr} {o : HO} (e : Ex H H') (h : H a = some o) : H' a = some o := e _ _ h

/-! ### loops and comprehensions, step by step -/
section
variable {K : PySem.W.Frag} {σ : L2.St} {H : Hp} {Q : VK} {x y v : V} {ta tb te : TE} {tt : TT} {D : Ends} {tr : TA} {p : Addr} {xs : List V} {g : TG} {tb' : TS}
theorem g_iR1 {R : It → Hp → Prop} (h : tr σ H fun vs H1 => ∃ j : Int, vs = [.int j] ∧ -(2 ^ 62) ≤ j ∧ j < 2 ^ 62 ∧ R (Itr 0 j.toNat) H1) : iRng1 tr σ H R := h
theorem g_iL {R : It → Hp → Prop} (h : te σ H fun x H1 => ∃ a, x = .ref a ∧ (∃ xs, SqL K H1 a xs) ∧ R (Itl K a) H1) : iList K te σ H R := h
theorem g_iT {R : It → Hp → Prop} (h : te σ H fun x H1 => ∃ a, x = .ref a ∧ (∃ xs, SqT K H1 a xs) ∧ R (Itt K a) H1) : iTup K te σ H R := h
theorem g_iE {R : It → Hp → Prop} (h : tr σ H fun vs H1 => ∃ a xs, vs = [.ref a] ∧ SqL K H1 a xs ∧ R (Ite K a) H1) : iEnum K tr σ H R := h
theorem g_iZ {R : It → Hp → Prop} (h : tr σ H fun vs H1 => ∃ a b xs ys, vs = [.ref a, .ref b] ∧ ((SqL K H1 a xs ∧ SqL K H1 b ys ∧ R (Itz K a b) H1) ∨ (SqT K H1 a xs ∧ SqT K H1 b ys ∧ R (RZ.ItzT K a b) H1))) : RZ.iZipA K tr σ H R := h
/-- a loop: what its walk is, then the walk's own lemma -/
theorem g_for {wi : TI} (h : wi σ H fun J H1 => ∃ W : Nat → Nat → L2.St → Hp → Prop, (∃ m, W 0 m σ H1) ∧ ∀ i m σ H, W i m σ H →
    (J.stop i H ∧ D.nx σ H) ∨ (J.go i H ∧ ∃ N : L2.St → Hp → Prop, (∀ σ' H', N σ' H' → ∃ m', m' < m ∧ W (i + 1) m' σ' H') ∧ ∀ x H', J.yld i H x H' → g x σ H' fun σ2 H2 => tb' { D with nx := N, ct := N, bk := D.nx } σ2 H2)) : tFor wi g tb' D σ H := h
theorem g_lc {wi : TI} {vs : List Nat} (h : wi σ H fun J H1 => ∀ D, H1 D = none → ∃ W : Nat → Nat → Hp → Prop, (∃ m, W 0 m (upd H1 D (.lst []))) ∧ ∀ i m H, W i m H →
    (J.stop i H ∧ Q (.ref D) H) ∨ (J.go i H ∧ ∃ Nx : Hp → Prop, (∀ H', Nx H' → ∃ m', m' < m ∧ W (i + 1) m' H') ∧ ∀ x H', J.yld i H x H' → g x (wipe σ vs) H' fun σ2 H2 => wipe σ2 vs = wipe σ vs ∧ tt σ2 H2 fun b H3 =>
      if b = true then te σ2 H3 fun y H4 => ∃ acc, H4 D = some (.lst acc) ∧ acc.length < sizeLine ∧ Nx (upd H4 D (.lst (acc ++ [y]))) else Nx H3)) : tLc wi g tt te vs σ H Q := h
/-- enumerate(a list) -/
theorem for_enum {a : Addr} (Pv : Nat → L2.St → Hp → Prop) (h0 : Pv 0 σ H) (hl : ∀ i σ H, i ≤ xs.length → Pv i σ H → SqL K H a xs)
    (hs : ∀ i x T σ H H1, xs[i]? = some x → Pv i σ H → H T = none → Ex H H1 → H1 T = some (.tup [.int (i : Nat), x]) → g (.ref T) σ H1 fun σ2 H2 => tb' { D with nx := Pv (i + 1), ct := Pv (i + 1), bk := D.nx } σ2 H2) (hd : ∀ σ H, Pv xs.length σ H → D.nx σ H) :
    ∃ W : Nat → Nat → L2.St → Hp → Prop, (∃ m, W 0 m σ H) ∧ ∀ i m σ H, W i m σ H →
      ((Ite K a).stop i H ∧ D.nx σ H) ∨ ((Ite K a).go i H ∧ ∃ N : L2.St → Hp → Prop, (∀ σ' H', N σ' H' → ∃ m', m' < m ∧ W (i + 1) m' σ' H') ∧ ∀ x H', (Ite K a).yld i H x H' → g x σ H' fun σ2 H2 => tb' { D with nx := N, ct := N, bk := D.nx } σ2 H2) := by
  refine ⟨fun i m σ H => m = xs.length - i ∧ i ≤ xs.length ∧ Pv i σ H, ⟨xs.length, rfl, Nat.zero_le _, h0⟩, ?_⟩
  rintro i m σ H ⟨rfl, hi, q⟩
  have qx := hl i σ H hi q
  by_cases hlt : i < xs.length
  · have hx : xs[i]? = some xs[i] := List.getElem?_eq_getElem hlt
    refine .inr ⟨⟨xs, _, qx, hx⟩, Pv (i + 1), fun σ' H' q' => ⟨xs.length - (i + 1), by omega, rfl, hlt, q'⟩, fun v H' y => ?_⟩
    obtain ⟨T, x', rfl, hT, rfl, f1⟩ := y
    exact hs i x' T σ H _ (f1 xs qx) q hT (Ex.new hT) upd_same
  · have e : i = xs.length := by omega
    subst e
    exact .inl ⟨⟨xs, qx, Nat.le_refl _⟩, hd σ H q⟩
/-- [e for k in range(n)] with a word over what has been made -/
theorem lcR {lo : Int} {n j : Nat} {vs : List Nat} {H1 : Hp} {Dl : Addr} {Qd : Hp → Prop} (Pv : Nat → List V → Hp → Prop) (hn : n ≤ 100000) (hD : H1 Dl = none) (h0 : Pv 0 [] H1) (hup : ∀ i acc H o, Pv i acc H → Pv i acc (upd H Dl o))
    (hw : ∀ x, wipe ((wipe σ vs).set j (some x)) vs = wipe σ vs)
    (hs : ∀ i acc H (R : VK), i < n → acc.length = i → H Dl = some (.lst acc) → Pv i acc H → (∀ y H4, H4 Dl = some (.lst acc) → Pv (i + 1) (acc ++ [y]) H4 → R y H4) → te ((wipe σ vs).set j (some (.int (lo + i)))) H R)
    (hd : ∀ H acc, acc.length = n → H Dl = some (.lst acc) → Pv n acc H → Qd H) :
    ∃ W : Nat → Nat → Hp → Prop, (∃ m, W 0 m (upd H1 Dl (.lst []))) ∧ ∀ i m H, W i m H →
      ((Itr lo n).stop i H ∧ Qd H) ∨ ((Itr lo n).go i H ∧ ∃ Nx : Hp → Prop, (∀ H', Nx H' → ∃ m', m' < m ∧ W (i + 1) m' H') ∧ ∀ x H', (Itr lo n).yld i H x H' → gName j x (wipe σ vs) H' fun σ2 H2 => wipe σ2 vs = wipe σ vs ∧ tYes σ2 H2 fun b H3 =>
        if b = true then te σ2 H3 fun y H4 => ∃ acc, H4 Dl = some (.lst acc) ∧ acc.length < sizeLine ∧ Nx (upd H4 Dl (.lst (acc ++ [y]))) else Nx H3) := by
  refine ⟨fun i m H => m = n - i ∧ i ≤ n ∧ ∃ acc, acc.length = i ∧ H Dl = some (.lst acc) ∧ Pv i acc H, ⟨n, by simp, Nat.zero_le _, [], rfl, upd_same, hup _ _ _ _ h0⟩, ?_⟩
  rintro i m H ⟨rfl, hi, acc, ha, hD', q⟩
  by_cases hlt : i < n
  · refine .inr ⟨hlt, fun H' => ∃ acc, acc.length = i + 1 ∧ H' Dl = some (.lst acc) ∧ Pv (i + 1) acc H', fun H' q' => ⟨n - (i + 1), by omega, rfl, hlt, q'⟩, fun x H' y => ?_⟩
    obtain ⟨e1, e2⟩ := y
    subst e1 e2
    refine ⟨hw _, ?_⟩
    show te ((wipe σ vs).set j (some (.int (lo + i)))) H' _
    refine hs i acc H' _ hlt ha hD' q fun y H4 h4 q4 => ⟨acc, h4, Nat.lt_of_lt_of_le (by omega) (show 100000 ≤ sizeLine by decide), acc ++ [y], by rw [List.length_append, ha] <;> rfl, upd_same, hup _ _ _ _ q4⟩
  · have e : i = n := by omega
    subst e
    exact .inl ⟨Nat.le_refl _, hd H acc ha hD' q⟩
end

/-! ### items at a drawn place -/
theorem atI_mem {α : Type} {xs : List α} {i : Int} (h0 : 0 ≤ i) (h1 : i < xs.length) : ∃ v, atI xs i = some v ∧ v ∈ xs := by
  obtain ⟨j, rfl⟩ : ∃ j : Nat, i = (j : Int) := ⟨i.toNat, by omega⟩
  have hl : j < xs.length := by omega
  exact ⟨xs[j], atI_nat (List.getElem?_eq_getElem hl), List.getElem_mem hl⟩
section
variable {K : PySem.W.Frag} {H : Hp} {Q : VK} {p : Addr} {xs : List V} {i : Int}
theorem g_ixLm (h : SqL K H p xs) (h0 : 0 ≤ i) (h1 : i < xs.length) (q : ∀ v, v ∈ xs → Q v H) : rIxL K (.ref p) (.int i) H Q := let ⟨v, a, b⟩ := atI_mem h0 h1; ⟨p, xs, i, v, rfl, rfl, h, a, q v b⟩
theorem g_ixTm (h : SqT K H p xs) (h0 : 0 ≤ i) (h1 : i < xs.length) (q : ∀ v, v ∈ xs → Q v H) : rIxT K (.ref p) (.int i) H Q := let ⟨v, a, b⟩ := atI_mem h0 h1; ⟨p, xs, i, v, rfl, rfl, h, a, q v b⟩
theorem g_ixSm {z : Str} (hz : z.length ≤ sizeLine) (h0 : 0 ≤ i) (h1 : i < z.cps.toList.length) (q : ∀ c, c ∈ z.cps.toList → Q (.str ⟨#[c]⟩) H) : rIxS (.str z) (.int i) H Q := let ⟨c, a, b⟩ := atI_mem h0 h1; ⟨z, i, c, rfl, rfl, hz, a, q c b⟩
end
/-- each of a written list's items is so, by a look -/
theorem all_mem {P : V → Bool} {xs : List V} (h : xs.all P = true) {v : V} (m : v ∈ xs) : P v = true := List.all_eq_true.mp h v m

/-! ### names -/
def nmL (l : List Nat) : Bool := decide (1 ≤ l.length) && decide (l.length ≤ 8) && l.all fun c => decide (97 ≤ c) && decide (c ≤ 122)
def IsNm (x : Str) : Prop := nmL x.cps.toList = true
def nmV : V → Bool
  | .str x => nmL x.cps.toList
  | _ => false
theorem nmV_is {v : V} (h : nmV v = true) : ∃ x, v = .str x ∧ IsNm x := by
  cases v <;> first | exact ⟨_, rfl, h⟩ | cases h
theorem IsNm.len {x : Str} (h : IsNm x) : 1 ≤ x.length ∧ x.length ≤ 8 := by
  unfold IsNm nmL at h
  simp only [Bool.and_eq_true, decide_eq_true_eq] at h
  rw [TL.len_tl x]
  exact h.1
theorem joinL_nil : ∀ l : List (List Nat), TL.joinL [] l = l.flatten
  | [] => rfl
  | [p] => by rw [List.flatten_cons, List.flatten_nil, List.append_nil] <;> rfl
  | p :: q :: r => by
    show p ++ ([] ++ TL.joinL [] (q :: r)) = _
    rw [joinL_nil (q :: r)] <;> simp
theorem nm_join {ys : List Str} {l : List Nat} (h : ys.map TL.tl = l.map fun c => [c]) (h1 : 1 ≤ ys.length) (h8 : ys.length ≤ 8) (hc : ∀ c ∈ l, 97 ≤ c ∧ c ≤ 122) : IsNm (Txt.join Str.empty ys) := by
  have e : TL.tl (Txt.join Str.empty ys) = l := by
    have z := TL.tl_join Str.empty ys
    rw [← TL.join_eq] at z
    refine z.trans ?_
    rw [h]
    show TL.joinL [] (l.map fun c => [c]) = l
    rw [joinL_nil]
    induction l with
    | nil => rfl
    | cons c r ih => rw [List.map_cons, List.flatten_cons, show (List.map (fun c => [c]) r).flatten = r from by
        clear ih h z
        clear h1 h8 hc
        induction r with
        | nil => rfl
        | cons d q ih => rw [List.map_cons, List.flatten_cons, ih] <;> rfl] <;> rfl
  unfold IsNm
  show nmL (TL.tl (Txt.join Str.empty ys)) = true
  rw [e]
  have hl : ys.length = l.length := by
    have z := congrArg List.length h
    simpa using z
  unfold nmL
  simp only [Bool.and_eq_true, decide_eq_true_eq, List.all_eq_true]
  exact ⟨⟨by omega, by omega⟩, fun c m => ⟨(hc c m).1, (hc c m).2⟩⟩
theorem letters_ok {c : Nat} (h : c ∈ (Str.ofString "abcdefghijklmnopqrstuvwxyz").cps.toList) : 97 ≤ c ∧ c ≤ 122 := by
  have z := List.all_eq_true.mp (show (Str.ofString "abcdefghijklmnopqrstuvwxyz").cps.toList.all (fun c => decide (97 ≤ c) && decide (c ≤ 122)) = true by decide +kernel) c h
  simpa using z
theorem ones_sum : ∀ l : List Nat, ((l.map fun c => (⟨#[c]⟩ : Str)).map (·.length)).sum = l.length
  | [] => rfl
  | c :: r => by
    rw [List.map_cons, List.map_cons, List.sum_cons, ones_sum r, List.length_cons]
    show 1 + r.length = r.length + 1
    omega
theorem ones_tl (l : List Nat) : (l.map fun c => (⟨#[c]⟩ : Str)).map TL.tl = l.map fun c => [c] := by
  rw [List.map_map]
  rfl
theorem ones_V (l : List Nat) : (l.map fun c => (⟨#[c]⟩ : Str)).map V.str = l.map fun c => V.str ⟨#[c]⟩ := by
  rw [List.map_map]
  rfl

/-! ### zip -/
def ItzG (Sa Sb : Hp → List V → Prop) : It :=
  ⟨fun i H => ∃ (xs ys : List V) (x y : V), Sa H xs ∧ Sb H ys ∧ xs[i]? = some x ∧ ys[i]? = some y,
    fun i H v H' => ∃ T x y, v = .ref T ∧ H T = none ∧ H' = upd H T (.tup [x, y]) ∧ (∀ xs, Sa H xs → xs[i]? = some x) ∧ ∀ ys, Sb H ys → ys[i]? = some y,
    fun i H => ∃ xs ys : List V, Sa H xs ∧ Sb H ys ∧ (xs.length ≤ i ∨ ys.length ≤ i)⟩
/-- [e for x, y in zip(a, b)], no test -/
theorem lcZ {K : PySem.W.Frag} {Sa Sb : Hp → List V → Prop} {xs ys : List V} {j1 j2 : Nat} {te : TE} {vs : List Nat} {σ : L2.St} {H1 : Hp} {Dl : Addr} {Qd : Hp → Prop} (Pv : Nat → List V → Hp → Prop) (hl : xs.length = ys.length) (hn : xs.length ≤ 100000) (hD : H1 Dl = none)
    (h0 : Pv 0 [] H1) (hup : ∀ i acc H o, Pv i acc H → Pv i acc (upd H Dl o)) (hex : ∀ i acc H H', Ex H H' → Pv i acc H → Pv i acc H') (hq : ∀ i acc H, Pv i acc H → Sa H xs ∧ Sb H ys)
    (hw : ∀ x y, wipe (((wipe σ vs).set j1 (some x)).set j2 (some y)) vs = wipe σ vs)
    (hs : ∀ i x y acc H (R : VK), xs[i]? = some x → ys[i]? = some y → acc.length = i → H Dl = some (.lst acc) → Pv i acc H → (∀ z H4, H4 Dl = some (.lst acc) → Pv (i + 1) (acc ++ [z]) H4 → R z H4) → te (((wipe σ vs).set j1 (some x)).set j2 (some y)) H R)
    (hd : ∀ H acc, acc.length = xs.length → H Dl = some (.lst acc) → Pv xs.length acc H → Qd H) :
    ∃ W : Nat → Nat → Hp → Prop, (∃ m, W 0 m (upd H1 Dl (.lst []))) ∧ ∀ i m H, W i m H →
      ((ItzG Sa Sb).stop i H ∧ Qd H) ∨ ((ItzG Sa Sb).go i H ∧ ∃ Nx : Hp → Prop, (∀ H', Nx H' → ∃ m', m' < m ∧ W (i + 1) m' H') ∧ ∀ x H', (ItzG Sa Sb).yld i H x H' → gTup K 2 (gCons (gName j1) (gCons (gName j2) gNil)) x (wipe σ vs) H' fun σ2 H2 => wipe σ2 vs = wipe σ vs ∧ tYes σ2 H2 fun b H3 =>
        if b = true then te σ2 H3 fun y H4 => ∃ acc, H4 Dl = some (.lst acc) ∧ acc.length < sizeLine ∧ Nx (upd H4 Dl (.lst (acc ++ [y]))) else Nx H3) := by
  refine ⟨fun i m H => m = xs.length - i ∧ i ≤ xs.length ∧ ∃ acc, acc.length = i ∧ H Dl = some (.lst acc) ∧ Pv i acc H, ⟨xs.length, by simp, Nat.zero_le _, [], rfl, upd_same, hup _ _ _ _ h0⟩, ?_⟩
  rintro i m H ⟨rfl, hi, acc, ha, hD', q⟩
  obtain ⟨qa, qb⟩ := hq i acc H q
  by_cases hlt : i < xs.length
  · have hx : xs[i]? = some xs[i] := List.getElem?_eq_getElem hlt
    have hlt2 : i < ys.length := by omega
    have hy : ys[i]? = some ys[i] := List.getElem?_eq_getElem hlt2
    refine .inr ⟨⟨xs, ys, _, _, qa, qb, hx, hy⟩, fun H' => ∃ acc, acc.length = i + 1 ∧ H' Dl = some (.lst acc) ∧ Pv (i + 1) acc H', fun H' q' => ⟨xs.length - (i + 1), by omega, rfl, hlt, q'⟩, fun v H' y => ?_⟩
    obtain ⟨T, x', y', rfl, hT, rfl, f1, f2⟩ := y
    refine ⟨T, [x', y'], rfl, .inl (.inl upd_same), rfl, x', [y'], rfl, y', [], rfl, rfl, hw _ _, ?_⟩
    show te (((wipe σ vs).set j1 (some x')).set j2 (some y')) (upd H T (.tup [x', y'])) _
    refine hs i x' y' acc _ _ (f1 xs qa) (f2 ys qb) ha (Ex.new hT _ _ hD') (hex _ _ _ _ (Ex.new hT) q) fun y H4 h4 q4 => ⟨acc, h4, Nat.lt_of_lt_of_le (by omega) (show 100000 ≤ sizeLine by decide), acc ++ [y], by rw [List.length_append, ha] <;> rfl, upd_same, hup _ _ _ _ q4⟩
  · have e : i = xs.length := by omega
    subst e
    exact .inl ⟨⟨xs, ys, qa, qb, .inl (Nat.le_refl _)⟩, hd H acc ha hD' q⟩

/-! ### texts of numbers and of texts -/
def partS : V → Str
  | .str x => x
  | .int i => toString i
  | _ => Str.empty
/-- a text of at most 100 signs, or a number below 2 ^ 100 -/
def partB : V → Bool
  | .str x => decide (x.length ≤ 100)
  | .int i => decide (i.natAbs < 2 ^ 100)
  | _ => false
theorem partB_is {v : V} (h : partB v = true) : (∃ x : Str, v = .str x ∧ x.length ≤ 100) ∨ ∃ i : Int, v = .int i ∧ i.natAbs < 2 ^ 100 := by
  cases v <;> first
    | exact .inl ⟨_, rfl, of_decide_eq_true h⟩
    | exact .inr ⟨_, rfl, of_decide_eq_true h⟩
    | cases h
theorem numlen {i : Int} (h : i.natAbs < 2 ^ 100) : (Str.ofString (toString i)).length ≤ 101 := by
  have e := int_text_length_le (a := i) (k := 100) (by decide) (PySem.Flt.log2_lt_of (by decide) h)
  rw [PySem.ofString_length]
  exact e
theorem str_len_append (x y : Str) : (x ++ y).length = x.length + y.length := by
  rw [TL.len_tl, TL.len_tl, TL.len_tl, TL.tl_append, List.length_append]
/-- a word, a blank, a part -/
def pairS (w : Str) (p : V) : Str := ((Str.empty ++ w) ++ Str.ofString " ") ++ partS p
theorem partS_len {p : V} (h : partB p = true) : (partS p).length ≤ 101 := by
  rcases partB_is h with ⟨x, rfl, hx⟩ | ⟨i, rfl, hi⟩
  · exact Nat.le_succ_of_le hx
  · exact numlen hi

section
variable {X : Cx}
def tJoin (ts : List TE) : TE := fun σ H Q => tJs ts Str.empty σ H fun out H1 => Q (.str out) H1
theorem pe_joinN {v1 v2 : Expr} {rest : List Expr} {ts : List TE} {pos : Pos} (h : PJ X (v1 :: v2 :: rest) ts) : PE X (.JoinedStr (v1 :: v2 :: rest) pos) (tJoin ts) := pe_joined h
def tTru (K : PySem.W.Frag) (ta : TE) : TT := fun σ H Q => ta σ H fun x H' => ∃ k, TruV K x H' k ∧ Q k H'
theorem pt_tru {a : Expr} {ta : TE} (ha : PE X a ta) (he : ∀ whole, isTrue a X.env whole = (do let v ← whole; standAt a.pos; holding [v] (truthy v))) : PT X a (tTru X.K ta) := pt_truth ha he
end
section
variable {K : PySem.W.Frag} {σ : L2.St} {H : Hp} {Q : VK} {QS : Str → Hp → Prop} {te : TE} {t : TE} {ts : List TE} {acc : Str}
theorem g_join (h : tJs ts Str.empty σ H fun out H1 => Q (.str out) H1) : tJoin ts σ H Q := h
theorem g_js0 (h : QS acc H) : tJs [] acc σ H QS := h
theorem g_js (h : t σ H fun x H1 => ∃ y : Str, x = .str y ∧ (acc ++ y).length ≤ sizeLine ∧ tJs ts (acc ++ y) σ H1 QS) : tJs (t :: ts) acc σ H QS := h
theorem g_fmt (h : te σ H fun x H1 => (∃ y : Str, x = .str y ∧ y.length ≤ sizeLine ∧ Q (.str y) H1) ∨ ∃ i : Int, x = .int i ∧ i.natAbs.log2 < 1920 ∧ Q (.str (toString i)) H1) : tFmt te σ H Q := h
end
theorem zw_get {ws : List Str} {ps : List V} {i : Nat} {w : Str} {p : V} (h1 : ws[i]? = some w) (h2 : ps[i]? = some p) : ((List.zipWith pairS ws ps).take (i + 1)).map V.str = ((List.zipWith pairS ws ps).take i).map V.str ++ [.str (pairS w p)] := by
  have e : (List.zipWith pairS ws ps)[i]? = some (pairS w p) := by rw [List.getElem?_zipWith, h1, h2]
  rw [List.take_add_one, e, List.map_append]
  rfl
theorem pairS_len {w : Str} {p : V} (hw : w.length ≤ 100) (hp : partB p = true) : (pairS w p).length ≤ 202 := by
  have h := partS_len hp
  have e : (Str.ofString " ").length = 1 := by decide +kernel
  have e0 : Str.empty.length = 0 := by decide +kernel
  unfold pairS
  rw [str_len_append, str_len_append, str_len_append, e, e0]
  omega
theorem zw_len {ws : List Str} {ps : List V} (hw : ∀ x ∈ ws, x.length ≤ 100) (hp : ps.all partB = true) : ∀ x ∈ List.zipWith pairS ws ps, x.length ≤ 202 := by
  intro x hx
  obtain ⟨i, hi⟩ := List.getElem?_of_mem hx
  rw [List.getElem?_zipWith] at hi
  cases e1 : ws[i]? with
  | none => rw [e1] at hi; cases hi
  | some w =>
    cases e2 : ps[i]? with
    | none => rw [e1, e2] at hi; cases hi
    | some p =>
      rw [e1, e2] at hi
      cases hi
      exact pairS_len (hw w (List.mem_of_getElem? e1)) (all_mem hp (List.mem_of_getElem? e2))
theorem sum_le_of {l : List Nat} {b : Nat} (h : ∀ x ∈ l, x ≤ b) : l.sum ≤ l.length * b := by
  induction l with
  | nil => simp
  | cons a r ih =>
    have h1 := h a (List.mem_cons_self ..)
    have h2 := ih fun x m => h x (List.mem_cons_of_mem _ m)
    rw [List.sum_cons, List.length_cons, Nat.succ_mul]
    omega
theorem lens_sum {ys : List Str} {b : Nat} (h : ∀ x ∈ ys, x.length ≤ b) : (ys.map (·.length)).sum ≤ ys.length * b := by
  have e := sum_le_of (l := ys.map (·.length)) (b := b) (fun x m => by
    obtain ⟨y, hy, rfl⟩ := List.mem_map.mp m
    exact h y hy)
  rw [List.length_map] at e
  exact e
theorem sz_app {x y : Str} {a b : Nat} (hx : x.length ≤ a) (hy : y.length ≤ b) (h : a + b ≤ 1000 := by decide) : (x ++ y).length ≤ sizeLine := by
  rw [str_len_append]
  exact small_sz (by omega)
theorem len_app {x y : Str} {a b : Nat} (hx : x.length ≤ a) (hy : y.length ≤ b) : (x ++ y).length ≤ a + b := by
  rw [str_len_append]
  omega
theorem e0_len : Str.empty.length ≤ 0 := by decide +kernel
theorem e1_len : (Str.ofString " ").length ≤ 1 := by decide +kernel
theorem log_ok {i : Int} (h : i.natAbs < 2 ^ 100) : i.natAbs.log2 < 1920 := Nat.lt_of_lt_of_le (PySem.Flt.log2_lt_of (by decide) h) (by decide)

section
variable {K : PySem.W.Frag} {σ : L2.St} {H : Hp} {Q : VK} {x : V} {p : Addr} {xs ys : List V} {R : L2.St → Hp → Prop}
theorem g_isi {t : Value} {n : String} {b : Bool} (ty : TyX K H x t) (k : PySem.W.kitOne K t (.type n) = some b) (q : Q (.bl b) H) : rIsi K [x, .ty n] H Q := ⟨x, .ty n, t, .type n, b, rfl, .ty n, ty, k, q⟩
theorem g_slT {lo hi : Option Int} (h : SqT K H p xs) (hn : ¬ (HT.sIx xs.length 0 lo = 0 ∧ HT.sIx xs.length xs.length hi = xs.length)) (hy : cutV xs lo hi = ys) (q : ∀ p2 H2, H p2 = none → Ex H H2 → H2 p2 = some (.tup ys) → Q (.ref p2) H2) : rSlT K (.ref p) lo hi H Q := by
  subst hy
  exact ⟨p, xs, rfl, h, hn, fun p2 np => q p2 _ np (Ex.new np) upd_same⟩
theorem g_slL {lo hi : Option Int} (h : SqL K H p xs) (q : ∀ p2 H2, H p2 = none → Ex H H2 → H2 p2 = some (.lst (cutV xs lo hi)) → Q (.ref p2) H2) : rSlL K (.ref p) lo hi H Q := ⟨p, xs, rfl, h, fun p2 np => q p2 _ np (Ex.new np) upd_same⟩
end
theorem joinL_snoc (S x : List Nat) : ∀ {l : List (List Nat)}, l ≠ [] → TL.joinL S (l ++ [x]) = TL.joinL S l ++ (S ++ x)
  | [], h => absurd rfl h
  | [a], _ => rfl
  | a :: b :: r, _ => by
    show a ++ (S ++ TL.joinL S ((b :: r) ++ [x])) = (a ++ (S ++ TL.joinL S (b :: r))) ++ (S ++ x)
    rw [joinL_snoc S x (l := b :: r) (by simp)]
    simp
theorem join_snoc (S x : Str) {l : List Str} (h : l ≠ []) : Txt.join S (l ++ [x]) = Txt.join S l ++ (S ++ x) := by
  refine TL.ext_tl ?_
  rw [TL.tl_append, TL.tl_append, TL.join_eq, TL.join_eq, TL.tl_join, TL.tl_join, List.map_append]
  exact joinL_snoc _ _ (by simpa using h)
theorem app_assoc (x y z : Str) : (x ++ y) ++ z = x ++ (y ++ z) := TL.ext_tl (by simp only [TL.tl_append, List.append_assoc])
theorem empty_app (x : Str) : Str.empty ++ x = x := TL.ext_tl (by rw [TL.tl_append]; rfl)
/-- the law's own way to the same text -/
theorem pairS_eq (w : Str) (p : V) : pairS w p = (w ++ Str.ofString " ") ++ partS p := by
  unfold pairS
  rw [empty_app]
theorem g_callKw {σ : L2.St} {H : Hp} {Q : VK} {m : Nat} {sp : Sp} {t : TA} (h : t σ H fun zs H2 => zs.length = m ∧ sp zs H2 Q E0) : tCallKw m sp t σ H Q := h
theorem sz_add {m n a b : Nat} (hx : m ≤ a) (hy : n ≤ b) (h : a + b ≤ 100000) : m + n ≤ sizeLine := Nat.le_trans (Nat.add_le_add hx hy) (Nat.le_trans h (by decide))
theorem wipe1 {σ : L2.St} {a : Nat} (x : V) : wipe ((wipe σ [a]).set a (some x)) [a] = wipe σ [a] := by
  show ((σ.set a none).set a (some x)).set a none = σ.set a none
  rw [List.set_set, List.set_set]
theorem wipe2 {σ : L2.St} {a b : Nat} (h : a ≠ b) (x y : V) : wipe (((wipe σ [a, b]).set a (some x)).set b (some y)) [a, b] = wipe σ [a, b] := by
  show (((((σ.set b none).set a none).set a (some x)).set b (some y)).set b none).set a none = (σ.set b none).set a none
  rw [List.set_set, List.set_set, List.set_comm _ _ h.symm, List.set_set, List.set_comm _ _ h, List.set_set]
end Lk

namespace Lk
open PySem PySem.Spec PyProof.Rows L2 Evl

/-! ### tables of code objects: they may grow, what is known of them stays -/
def TabPhi (P : Addr) (h : Heap) : Prop := ∃ ps : Array Value, h.get? P = some { cls := .none, data := .fields ps } ∧ TriplesOk ps.toList
def TabO (P : Addr) : HO := .ext (TabPhi P)
/-- the script: a list whose object is known to the sign -/
def SqX (K : PySem.W.Frag) (H : Hp) (a : Addr) (xs : List V) : Prop := Rd H a (.lst xs) ∨ ∃ its : List Value, K.lookup a = some { cls := .type "list", data := .seq its.toArray } ∧ xs.length ≤ sizeLine ∧ Vals xs its
theorem SqX.l {K : PySem.W.Frag} {H : Hp} {a : Addr} {xs : List V} (h : SqX K H a xs) : SqL K H a xs := by
  rcases h with h | ⟨its, e, z, r⟩
  · exact .inl h
  · exact .inr ⟨_, its.toArray, _, e, rfl, rfl, rfl, by rw [List.size_toArray, ← r.length]; exact z, by simpa using r⟩
theorem SqX.ex {K : PySem.W.Frag} {H H' : Hp} {a : Addr} {xs : List V} (e : Ex H H') (h : SqX K H a xs) : SqX K H' a xs := by
  rcases h with h | h
  · exact .inl (ex_rd e h)
  · exact .inr h
section
variable {X : Cx} {pins : List (Addr × Obj)} {σ : L2.St} {H : Hp} {s : Shared} {a : Addr} {xs : List V}
theorem inv_sqx (I : Inv X pins σ H s) (h : SqX X.K H a xs) : xs.length ≤ sizeLine ∧ ∃ (its : List Value) (n : Nat), Vals xs its ∧ s.heap.get? a = some { cls := .type "list", data := .seq its.toArray n } := by
  rcases h with h | ⟨its, e, z, r⟩
  · obtain ⟨z, its, n, r, e⟩ := h.ok I.hok
    exact ⟨z, its, n, r, e⟩
  · exact ⟨z, its, _, r, I.kIn _ _ e⟩
/-- script + a list -/
def rCatX (K : PySem.W.Frag) : R2 := fun x y H Q => ∃ l b xs zs, x = .ref l ∧ y = .ref b ∧ SqX K H l xs ∧ H b = some (.lst zs) ∧ xs.length + zs.length ≤ sizeLine ∧ NewL Q (xs ++ zs) H
theorem op_catX : OpR X (binaryOp .Add) (rCatX X.K) := by
  intro pins s σ H x y v u Q I rx ry h
  obtain ⟨l, b, xs, zs, e1, e2, hL, hB, hz, q⟩ := h
  subst e1
  subst e2
  cases rx
  cases ry
  obtain ⟨z1, its, n, r, e⟩ := inv_sqx I hL
  obtain ⟨z2, its2, n2, r2, e2⟩ := I.hok b _ hB
  have l1 := r.length
  have l2 := r2.length
  refine PySem.P.add_list e e2 ?_ (by rw [List.size_toArray, List.size_toArray]; omega)
  have ea : its.toArray ++ its2.toArray = (its ++ its2).toArray := by simp
  rw [ea]
  exact ⟨.ref _, _, I.lnew (t' := s.toks) (r.append r2) (by rw [List.length_append]; omega), rfl, q.2 _ I.fresh⟩
end

/-! ### the law's call, from its promise -/
section
variable {P : Program} {w : World} {K : PySem.W.Frag} {mg mb : Str → Option Value}
/-- what is tracked as the law is entered: the tables, and the script where the top has not written it -/
def entryH (K : PySem.W.Frag) (ts : List Addr) (a : Addr) (o : Obj) (xs : List V) : Hp := fun b => if b ∈ ts then some (TabO b) else if b = a ∧ K.lookup a = none then some (.frz o (.lst xs)) else none
theorem entry_tab {ts : List Addr} {a : Addr} {o : Obj} {xs : List V} {b : Addr} (h : b ∈ ts) : entryH K ts a o xs b = some (TabO b) := if_pos h
theorem entry_some {ts : List Addr} {a : Addr} {o : Obj} {xs : List V} {b : Addr} {u : HO} (h : entryH K ts a o xs b = some u) : (b ∈ ts ∧ u = TabO b) ∨ (b ∉ ts ∧ b = a ∧ K.lookup a = none ∧ u = .frz o (.lst xs)) := by
  unfold entryH at h
  by_cases hb : b ∈ ts
  · rw [if_pos hb] at h
    exact .inl ⟨hb, (Option.some.inj h).symm⟩
  · rw [if_neg hb] at h
    by_cases hc : b = a ∧ K.lookup a = none
    · rw [if_pos hc] at h
      exact .inr ⟨hb, hc.1, hc.2, (Option.some.inj h).symm⟩
    · rw [if_neg hc] at h
      cases h
theorem lawX {k : Nat} {fa a : Addr} {cs : List (Addr × Addr)} {fd : FuncData} {x : Str} {sp : Sp} {s1 : Shared} {vs : List Value} {ns : List Int}
    (KX : K.In s1.heap) (hns : s1.heap.Ns mainGlobals mg) (hb : s1.heap.Ns builtinsNs mb) (hbb : ∀ x : Str, x ≠ "__name__" → mb x = bootBuiltins x) (hlim : s1.heap.NoLimit) (hg : s1.gens = #[])
    (hT : ∀ p ∈ cs, s1.heap.get? p.2 = some { cls := .none, data := .fields #[] }) (nT : ∀ p ∈ cs, K.lookup p.2 = none) (C : ∀ p ∈ cs, PySem.W.CodeHd s1.heap p.1 p.2)
    (hbm : ∃ (bm : Addr) (ob : Obj), mg "__builtins__" = some (.ref bm) ∧ bm ≠ builtinsNs ∧ s1.heap.get? bm = some ob ∧ ob.cls = .type "module" ∧ ob.dict = some builtinsNs ∧ ob.data = .plain)
    (ha : s1.heap.get? a = some { cls := .type "list", data := .seq vs.toArray }) (hi : IntsAre vs ns) (hl : ns.length ≤ sizeLine) (hr : Room k callerA)
    (F : ∀ base : Heap, K.In base → base.Ns mainGlobals mg → (∀ p ∈ cs, GxR.TabB base mg p.1 p.2) → FnOk P w K mg base CX0 k fa fd [x] sp) (hbind : ∀ (s : Shared) (u : Value), BindsTo s fd ⟨[u], []⟩ [(x, u)])
    (hsp : ∀ H : Hp, (∀ p ∈ cs, H p.2 = some (TabO p.2)) → SqX K H a (ns.map V.int) → sp [.ref a] H (fun v H' => v = .bl true ∧ ∀ p ∈ cs, H' p.2 = some (TabO p.2)) fun _ _ _ => False) :
    codeAny (model P w) callerA (.call (.ref fa) ⟨[.ref a], []⟩) (fun r s' => r = .ok (.ret (.bool true)) ∧ OldK s1.heap s'.heap ∧ s'.os = s1.os ∧ AllBare s'.gens) s1 := by
  have rv := vals_ints hi
  have lenV := hi.length
  let ts := cs.map (·.2)
  let H : Hp := entryH K ts a { cls := .type "list", data := .seq vs.toArray } (ns.map V.int)
  have inT : ∀ p ∈ cs, p.2 ∈ ts := fun p hp => List.mem_map.mpr ⟨p, hp, rfl⟩
  have isT : ∀ b : Addr, b ∈ ts → s1.heap.get? b = some { cls := .none, data := .fields #[] } ∧ K.lookup b = none := fun b hb => by
    obtain ⟨p, hp, e⟩ := List.mem_map.mp hb
    rw [← e]
    exact ⟨hT p hp, nT p hp⟩
  have aT : a ∉ ts := fun z => by
    have q := (isT a z).1
    rw [ha] at q
    have z' : Data.seq vs.toArray _ = Data.fields #[] := congrArg Obj.data (Option.some.inj q)
    cases z'
  -- what is neither a list nor an empty table is not tracked
  have free : ∀ {b : Addr} {o : Obj}, s1.heap.get? b = some o → (∀ zs n, o.data ≠ .seq zs n) → o.data ≠ .fields #[] → H b = none := fun {b o} e h1 h2 => by
    cases q : H b with
    | none => rfl
    | some u =>
      rcases entry_some q with ⟨hb, _⟩ | ⟨_, hb, _⟩
      · rw [(isT b hb).1] at e
        cases e
        exact (h2 rfl).elim
      · rw [hb, ha] at e
        cases e
        exact (h1 _ _ rfl).elim
  have freeD : ∀ {b : Addr} {o : Obj} {es : Array DictEntry} {ep : Nat}, s1.heap.get? b = some o → o.data = .dict es ep → H b = none := fun {b o es ep} e d => by
    refine free e (fun zs n z => ?_) fun z => ?_
    · rw [d] at z
      cases z
    · rw [d] at z
      cases z
  have nsK : ∀ {b : Addr} {m : Str → Option Value}, s1.heap.Ns b m → (hidT s1.heap H).Ns b m := fun {b m} ⟨o, es, ep, e, d, r⟩ => ⟨o, es, ep, hidT_get e (freeD e d), d, r⟩
  have hKb : K.In (hidT s1.heap H) := fun b o e => hidT_get (KX b o e) (by
    cases q : H b with
    | none => rfl
    | some u =>
      rcases entry_some q with ⟨hb, _⟩ | ⟨_, hb, hk, _⟩
      · rw [(isT b hb).2] at e
        cases e
      · rw [hb, hk] at e
        cases e)
  have hM : L2.Mod K mg (hidT s1.heap H) := ⟨hKb, nsK hns, ⟨mb, nsK hb, hbb⟩, let ⟨mc, h1, h2⟩ := hlim; ⟨mc, nsK h1, h2⟩⟩
  have TB : ∀ p ∈ cs, GxR.TabB (hidT s1.heap H) mg p.1 p.2 := fun p hp => by
    have hTp := hT p hp
    refine ⟨?_, ?_, fun z => ?_⟩
    · obtain ⟨o, us, file, tf, flags, tg, inF, text, tt, e1, r1, r2, r3, r⟩ := C p hp
      refine ⟨o, us, file, tf, flags, tg, inF, text, tt, hidT_get e1 (free e1 (fun zs n z => ?_) fun z => ?_), r1, r2, r3, r⟩
      · rw [r2] at z
        cases z
      · rw [r2] at z
        cases z
        simp at r3
    · obtain ⟨bm, ob, b1, b2, b3, b4, b5, b6⟩ := hbm
      refine ⟨bm, ob, b1, b2, fun q => ?_, fun q => ?_, hidT_get b3 (free b3 (fun zs n z => ?_) fun z => ?_), b4, b5, b6⟩
      · obtain ⟨o, es, ep, e, hd, _⟩ := hns
        rw [q, e] at b3
        cases b3
        rw [hd] at b6
        cases b6
      · rw [q, hTp] at b3
        cases b3
        cases b6
      · rw [b6] at z
        cases z
      · rw [b6] at z
        cases z
    · obtain ⟨o, es, ep, e, hd, _⟩ := hns
      rw [z, hTp] at e
      cases e
      cases hd
  have hok : HOk P w H s1.heap := fun b u z => by
    rcases entry_some z with ⟨hb, rfl⟩ | ⟨_, rfl, _, rfl⟩
    · have e := (isT b hb).1
      refine ⟨⟨#[], e, True.intro⟩, ⟨_, e⟩, ?_⟩
      rintro h1 h2 ⟨ps, e1, e2⟩ kp
      exact ⟨ps, kp _ e1, e2⟩
    · exact ⟨ha, by rw [List.length_map]; exact hl, vs, _, rv, ha⟩
  have hS : SqX K H a (ns.map V.int) := by
    cases hk : K.lookup a with
    | some o =>
      have e := KX a o hk
      rw [ha] at e
      cases e
      exact .inr ⟨vs, hk, by rw [List.length_map]; exact hl, rv⟩
    | none => exact .inl (.inr ⟨_, show entryH K ts a _ _ a = _ by unfold entryH; rw [if_neg aT, if_pos ⟨rfl, hk⟩]⟩)
  have e0 : Env0 P w K mg (hidT s1.heap H) callerA [] s1 H := ⟨rfl, hM, fun b o e => of_hidT e, Nat.le_of_eq (hidT_size _ _), trivial, fun b hb => absurd (show b ∈ ([] : List Addr) from hb) (by simp), hok, .of_eq hg⟩
  refine codeAny_mono ((F _ hKb (nsK hns) TB).run callerA [] s1 H ⟨[.ref a], []⟩ [.ref a] [.ref a] _ _ hr e0 (hbind s1 (.ref a)) (.cons rfl .nil) (hsp H (fun p hp => entry_tab (inT p hp)) hS)) fun r s' h => ?_
  cases r with
  | error e => exact False.elim h
  | ok fl =>
    cases fl with
    | next => exact False.elim h
    | brk => exact False.elim h
    | cont => exact False.elim h
    | ret u =>
      obtain ⟨v, H', os, bare, un, hok', r', q⟩ := h
      obtain ⟨qv, qT⟩ : v = .bl true ∧ ∀ p ∈ cs, H' p.2 = some (TabO p.2) := q
      subst qv
      obtain rfl : u = Value.bool true := r'
      have key : ∀ b o, b ∉ ts → s1.heap.get? b = some o → s'.heap.get? b = some o := fun b o nb e => by
        cases q : H b with
        | none => exact un.keep b o e q (by intro z; exact absurd (show b ∈ ([] : List Addr) from z) (by simp)) (by simp)
        | some u =>
          rcases entry_some q with ⟨z, _⟩ | ⟨_, rfl, _, rfl⟩
          · exact absurd z nb
          · obtain ⟨e1, _⟩ := hok b _ q
            obtain ⟨e2, _⟩ := hok' b _ (un.frzs b _ _ q)
            rw [e] at e1
            cases e1
            exact e2
      have grown : ∀ p ∈ cs, ∃ more : Array Value, s'.heap.get? p.2 = some { cls := .none, data := .fields more } := fun p hp => by
        obtain ⟨⟨ps, e, _⟩, _, _⟩ := hok' p.2 _ (qT p hp)
        exact ⟨ps, e⟩
      refine ⟨rfl, ⟨fun b o e => ?_, fun b o e => ?_⟩, os, bare⟩
      · by_cases hb : b ∈ ts
        · obtain ⟨p, hp, ep⟩ := List.mem_map.mp hb
          obtain ⟨more, hm⟩ := grown p hp
          have ep' : p.2 = b := ep
          rw [← ep'] at e ⊢
          rw [hT p hp] at e
          cases e
          exact .inr (.inl ⟨((C p hp).tab (hT p hp)).isCodeTable, rfl, #[], more, rfl, by rw [Array.empty_append]; exact hm⟩)
        · exact .inl (key b o hb e)
      · by_cases hb : b ∈ ts
        · obtain ⟨p, hp, ep⟩ := List.mem_map.mp hb
          obtain ⟨more, hm⟩ := grown p hp
          have ep' : p.2 = b := ep
          rw [← ep']
          exact ⟨_, hm⟩
        · exact ⟨o, key b o hb e⟩
end
/-- what is to be shown of a law's def, behind the top -/
def LawAt (l : PySem.W.OpenLaw) (w : World) (K : PySem.W.Frag) (k n : Nat) (x : Str) (mg : Str → Option Value) (h : Heap) (fa : Addr) : Prop :=
  ∃ (fd : FuncData) (cs : List (Addr × Addr)) (sp : Sp), (∀ p ∈ cs, h.get? p.2 = some { cls := .none, data := .fields #[] }) ∧ (∀ p ∈ cs, K.lookup p.2 = none) ∧ (∀ p ∈ cs, PySem.W.CodeHd h p.1 p.2) ∧ (∀ (s : Shared) (u : Value), BindsTo s fd ⟨[u], []⟩ [(x, u)]) ∧
    (∀ (H : Hp) (a : Addr) (ns : List Int), ns.length ≤ n → (∀ z ∈ ns, Builtin.Int.intBits z ≤ 1048576) → (∀ p ∈ cs, H p.2 = some (TabO p.2)) → SqX K H a (ns.map V.int) → sp [.ref a] H (fun v H' => v = .bl true ∧ ∀ p ∈ cs, H' p.2 = some (TabO p.2)) fun _ _ _ => False) ∧
    ∀ base : Heap, K.In base → base.Ns mainGlobals mg → (∀ p ∈ cs, GxR.TabB base mg p.1 p.2) → FnOk l.prog w K mg base CX0 k fa fd [x] sp
theorem walkX {l : PySem.W.OpenLaw} {n k : Nat} {q : Program} {loose : List Str} {XP : (Str → Option Value) → Heap → Prop} {YP : World → Heap → Prop} {d : DefRec} {K : Params → PySem.W.Frag} {x : Str}
    (hn : l.most = some n) (hn2 : n ≤ sizeLine) (hdf : d.params.defaults = []) (hr : Room k callerA) (hY : ∀ (w : World) (h : Heap), YP w h → (K w.params).In h)
    (F : ∀ (w : World) (mg mb : Str → Option Value) (fa : Addr) (s0 : Shared) (h : Heap), PySem.W.Ground q loose [] XP w s0 mg mb h → YP w h → (K w.params).In h → h.Ns mainGlobals mg → mg d.name = some (.ref fa) → LawAt l w (K w.params) k n x mg h fa) :
    PySem.W.WalkO q loose XP YP l.row.toRowW d [] (fun f vs => PySem.call f vs) := by
  refine Att.attach_callB hn hdf fun w s0 s1 mg mb fa o pm cd doc a vs ns G Y ho hd hcd hmg hobj hints hlen hbits hg => ?_
  have KX := hY w _ Y
  obtain ⟨fd, cs, sp, hT, nT, C, hb, hsp, hF⟩ := F w mg mb fa s0 _ G Y KX G.T.g hmg
  exact lawX KX G.T.g G.T.b G.T.builtins G.T.nolimit hg hT nT C G.T.bmain hobj hints (Nat.le_trans hlen hn2) hr hF hb (fun H hH hS => hsp H a ns hlen hbits hH hS)
theorem kp_ex {u : Addr} {H H' : Hp} (k : Kp u H H') (h : H u = none) : Ex H H' := fun a o e => k a o (ne_of_none e h) e
section
variable {K : PySem.W.Frag} {σ : L2.St} {H : Hp} {Q : VK} {a b : Addr} {xs zs : List V} {ns : List Int}
theorem g_catX (h : SqX K H a xs) (hb : H b = some (.lst zs)) (hz : xs.length + zs.length ≤ sizeLine) (q : NewL Q (xs ++ zs) H) : rCatX K (.ref a) (.ref b) H Q := ⟨a, b, xs, zs, rfl, rfl, h, hb, hz, q⟩
/-- the cells that a law takes: whole numbers, at most as many as there are, and one more -/
theorem cells_len (ns : List Int) (lo hi : Option Int) : (cutV (ns.map V.int ++ [V.int 0]) lo hi).length ≤ ns.length + 1 := by
  have h := cutV_length (ns.map V.int ++ [V.int 0]) lo hi
  rw [List.length_append, List.length_map] at h
  exact h
theorem cells_int {ns : List Int} {lo hi : Option Int} {i : Nat} {v : V} (h : (cutV (ns.map V.int ++ [V.int 0]) lo hi)[i]? = some v) : ∃ c, v = .int c := by
  have m := List.mem_of_getElem? h
  unfold cutV at m
  have m2 := List.mem_of_mem_drop (List.mem_of_mem_take m)
  rcases List.mem_append.mp m2 with z | z
  · obtain ⟨c, _, e⟩ := List.mem_map.mp z
    exact ⟨c, e.symm⟩
  · exact ⟨0, List.mem_singleton.mp z⟩
end
end Lk

namespace K07
open PySem PySem.Spec PyProof.Rows L2 Lk Evl




def topS (i : Nat) : Stmt := PySem.Challenge.pw_leavechain_k07_leaves_written.main.body.getD i (.Pass ⟨0, 0, 0, 0⟩)
abbrev s_show_deeds : Stmt := topS 1
theorem sc_show_deeds : FnScope ["deeds"] ["deeds"] (defScope s_show_deeds) := ⟨rfl, rfl, rfl, by decide +kernel, rfl, by decide +kernel, by decide +kernel⟩
abbrev s__show_pairs : Stmt := topS 4
theorem sc__show_pairs : FnScope ["words", "parts", "word", "part"] ["words", "parts"] (defScope s__show_pairs) := ⟨rfl, rfl, rfl, by decide +kernel, rfl, by decide +kernel, by decide +kernel⟩
abbrev s_show_leave : Stmt := topS 5
theorem sc_show_leave : FnScope ["leave", "number", "room", "deeds", "giver", "holder", "since", "until", "passes", "under", "told_under", "parts"] ["leave"] (defScope s_show_leave) := ⟨rfl, rfl, rfl, by decide +kernel, rfl, by decide +kernel, by decide +kernel⟩
abbrev s__law_urn : Stmt := topS 7
theorem sc__law_urn : FnScope ["cell", "k"] ["cell", "k"] (defScope s__law_urn) := ⟨rfl, rfl, rfl, by decide +kernel, rfl, by decide +kernel, by decide +kernel⟩
abbrev s__law_lot : Stmt := topS 8
theorem sc__law_lot : FnScope ["urn", "many", "found", "spun"] ["urn", "many"] (defScope s__law_lot) := ⟨rfl, rfl, rfl, by decide +kernel, rfl, by decide +kernel, by decide +kernel⟩
abbrev s__law_named : Stmt := topS 9
theorem sc__law_named : FnScope ["urn", "letters", "some", "k"] ["urn"] (defScope s__law_named) := ⟨rfl, rfl, rfl, by decide +kernel, rfl, by decide +kernel, by decide +kernel⟩
abbrev s__law_leaf : Stmt := topS 10
theorem sc__law_leaf : FnScope ["urn", "number", "above", "giver", "holder", "since", "until", "deeds"] ["urn"] (defScope s__law_leaf) := ⟨rfl, rfl, rfl, by decide +kernel, rfl, by decide +kernel, by decide +kernel⟩
abbrev s__law_line : Stmt := topS 11
theorem sc__law_line : FnScope ["leaf", "number", "room", "deeds", "giver", "holder", "since", "until", "passes", "above", "told", "words", "line", "word", "part"] ["leaf"] (defScope s__law_line) := ⟨rfl, rfl, rfl, by decide +kernel, rfl, by decide +kernel, by decide +kernel⟩
abbrev s__law_right : Stmt := topS 12
theorem sc__law_right : FnScope ["urn", "turn", "leaf", "due", "found"] ["urn"] (defScope s__law_right) := ⟨rfl, rfl, rfl, by decide +kernel, rfl, by decide +kernel, by decide +kernel⟩
abbrev s_law : Stmt := topS 13
theorem sc_law : FnScope ["script", "k", "cell"] ["script"] (defScope s_law) := ⟨rfl, rfl, rfl, by decide +kernel, rfl, by decide +kernel, by decide +kernel⟩
local macro_rules | `(tactic| walk_at "hx") => `(tactic| first
  | exact UA.ix (by assumption)
  | exact UA.ix (UA.ex' (by assumption) (by assumption))
  | exact UA.ix (UA.ex' (by assumption) (UA.ex' (by assumption) (by assumption)))
  | exact UA.ix (UA.ex' (by assumption) (UA.ex' (by assumption) (UA.ex' (by assumption) (by assumption)))))
local macro_rules | `(tactic| walk_at "tr1") => `(tactic| first
  | ((with_reducible show SqL _ _ _ _); first
    | assumption
    | exact .inl (.inl (by assumption))
    | with_reducible refine' ex_l (by assumption) ?_
    | (with_reducible refine' kp_l (by assumption) ?hx ?_); (case hx => walk_at "hx"))
  | ((with_reducible show SqT _ _ _ _); first
    | assumption
    | exact .inl (.inl (by assumption))
    | with_reducible refine' ex_t (by assumption) ?_
    | (with_reducible refine' kp_t (by assumption) ?hx ?_); (case hx => walk_at "hx"))
  | ((with_reducible show _ = some _); first
    | assumption
    | with_reducible refine' ex_lst (by assumption) ?_
    | (with_reducible refine' kp_lst (by assumption) ?hx ?_); (case hx => walk_at "hx")
    | (with_reducible refine' kp_tup (by assumption) ?hx ?_); (case hx => walk_at "hx")
    | (with_reducible refine' kp_dK (by assumption) ?hx ?_); (case hx => walk_at "hx")))
local macro_rules | `(tactic| walk_at "tr") => `(tactic| (repeat (any_goals (walk_at "tr1"))); done)
local macro_rules | `(tactic| walk_at "ix") => `(tactic| first
  | (with_reducible show rIxL _ _ _ _ _); (refine' g_ixLm ?hs ?h0 ?h1 ?hq); (case hs => walk_at "tr"); (case h0 => omega); (case h1 => (simp only [List.length_cons, List.length_nil]; omega)); (case' hq => skip)
  | (with_reducible show rIxT _ _ _ _ _); (refine' g_ixTm ?hs ?h0 ?h1 ?hq); (case hs => walk_at "tr"); (case h0 => omega); (case h1 => (simp only [List.length_cons, List.length_nil]; omega)); (case' hq => skip)
  | (with_reducible show rIxS _ _ _ _); (refine' g_ixSm ?hs ?h0 ?h1 ?hq); (case hs => decide +kernel); (case h0 => omega); (case h1 => exact Int.lt_of_lt_of_le (by assumption) (by decide +kernel)); (case' hq => skip))
local macro_rules | `(tactic| walk_at "g1") => `(tactic| first
  | (with_reducible show tVar _ _ _ _); refine g_var rfl ?_
  | with_reducible refine g_c ?_
  | (with_reducible refine g_seq ?_); (try dsimp only [List.set_cons_succ, List.set_cons_zero])
  | with_reducible refine g_op ?_
  | with_reducible refine g_un ?_
  | with_reducible refine g_I0 ?_
  | with_reducible refine g_U ?_
  | (with_reducible refine g_Eq ?hs ?_); (case hs => rfl)
  | (with_reducible refine g_Ne ?hs ?_); (case hs => rfl)
  | with_reducible refine g_test ?_
  | with_reducible refine g_B ?_
  | with_reducible refine g_ifS ?_
  | with_reducible refine g_asg ?_
  | with_reducible refine g_asgG ?_
  | with_reducible refine g_ret ?_
  | with_reducible refine g_retU ?_
  | with_reducible refine g_drop ?_
  | with_reducible refine g_next ?_
  | with_reducible refine g_name ?_
  | with_reducible refine g_and ?_
  | with_reducible refine g_or ?_
  | with_reducible refine g_not ?_
  | with_reducible refine g_andV ?_
  | with_reducible refine g_orV ?_
  | with_reducible refine g_notV ?_
  | with_reducible refine g_if ?_
  | with_reducible refine g_nil ?_
  | with_reducible refine g_cons ?_
  | with_reducible refine g_call ?_
  | with_reducible refine g_callKw ?_
  | with_reducible refine g_callS ?_
  | with_reducible refine g_cb ?_
  | with_reducible refine g_tup ?_
  | with_reducible refine g_lst ?_
  | with_reducible refine g_ipI ?_
  | with_reducible refine g_sub ?_
  | with_reducible refine g_augS ?_
  | (with_reducible show tAug _ _ _ _ _ _); refine g_aug rfl ?_
  | with_reducible refine g_M1 ?_
  | with_reducible refine g_M0 ?_
  | with_reducible refine g_yes ?_
  | with_reducible refine g_sl ?_
  | with_reducible refine g_nopart ?_
  | with_reducible refine g_part ?_
  | with_reducible refine g_lc ?_
  | with_reducible refine g_join ?_
  | (with_reducible show gTup _ _ _ (V.ref _) _ _ _); (refine' ⟨_, _, rfl, ?hs, ?hl, ?hm⟩); (case hs => walk_at "tr"); (case hl => rfl); (case' hm => skip)
  | (with_reducible show gCons _ _ _ _ _ _); (refine ⟨_, _, rfl, ?_⟩)
  | (with_reducible show gNil _ _ _ _); (refine ⟨rfl, ?_⟩)
  | (with_reducible show V.non = V.non ∧ _); (refine ⟨rfl, ?_⟩)
  | (with_reducible show rSlT _ _ _ _ _ _); (refine' g_slT ?hs ?hn ?hy ?hm); (case hs => walk_at "tr"); (case hn => first | exact fun z => absurd z.2 (Nat.ne_of_beq_eq_false rfl) | exact fun z => absurd z.1 (Nat.ne_of_beq_eq_false rfl)); (case hy => rfl); (case' hm => skip)
  | (with_reducible show rSlL _ _ _ _ _ _); (refine' g_slL ?hs ?hm); (case hs => walk_at "tr"); (case' hm => skip)
  | with_reducible refine g_js ?_
  | with_reducible refine g_js0 ?_
  | with_reducible refine g_fmt ?_
  | with_reducible refine g_for ?_
  | with_reducible refine g_iR1 ?_
  | with_reducible refine g_iL ?_
  | with_reducible refine g_iT ?_
  | with_reducible refine g_iE ?_
  | with_reducible refine g_iZ ?_
  | (with_reducible show ∃ k, V.bl _ = V.bl k ∧ _); refine ⟨_, rfl, ?_⟩
  | (with_reducible show ∃ k, V.int _ = V.int k ∧ _); refine ⟨_, rfl, ?_⟩
  | (with_reducible show (∃ a, V.str _ = V.str a) ∧ _); refine ⟨⟨_, rfl⟩, ?_⟩
  | (with_reducible show ∃ j : Int, [V.int _] = [V.int j] ∧ -(2 ^ 62) ≤ j ∧ _); (refine ⟨_, rfl, ?h0, ?h1, ?hm⟩); (case h0 => omega); (case h1 => omega); (case' hm => skip)
  | (with_reducible show ∃ i j : Int, [V.int _, V.int _] = [V.int i, V.int j] ∧ _); (refine ⟨_, _, rfl, ?_⟩)
  | (with_reducible show (∃ i : Int, [V.bl _] = [V.int i] ∧ _) ∨ _); (refine .inr ⟨_, rfl, ?_⟩)
  | (with_reducible show (∃ i : Int, [V.int _] = [V.int i] ∧ _) ∨ _); (refine .inl ⟨_, rfl, ?_⟩)
  | (with_reducible show ∃ a, V.ref _ = V.ref a ∧ (∃ xs, SqL _ _ a xs) ∧ _); (refine' ⟨_, rfl, ⟨_, ?hs⟩, ?hm⟩); (case hs => walk_at "tr"); (case' hm => skip)
  | (with_reducible show ∃ a, V.ref _ = V.ref a ∧ (∃ xs, SqT _ _ a xs) ∧ _); (refine' ⟨_, rfl, ⟨_, ?hs⟩, ?hm⟩); (case hs => walk_at "tr"); (case' hm => skip)
  | (with_reducible show ∃ a xs, [V.ref _] = [V.ref a] ∧ SqL _ _ a xs ∧ _); (refine' ⟨_, _, rfl, ?hs, ?hm⟩); (case hs => walk_at "tr"); (case' hm => skip)
  | (with_reducible show rIxL _ _ _ _ _); (refine' g_ixL ?hs ?ha ?hm); (case hs => walk_at "tr"); (case ha => rfl); (case' hm => skip)
  | (with_reducible show rIxT _ _ _ _ _); (refine' g_ixT ?hs ?ha ?hm); (case hs => walk_at "tr"); (case ha => rfl); (case' hm => skip)
  | (with_reducible show rGetL _ _ _ _ _); (refine' g_getL ?hs ?h0 ?ha ?hm); (case hs => walk_at "tr"); (case h0 => decide); (case ha => rfl); (case' hm => skip)
  | (with_reducible refine g_newL ?hz ?_); (case hz => exact small_sz (Nat.le_of_ble_eq_true rfl))
  | (with_reducible refine g_newT ?hz ?_); (case hz => exact small_sz (Nat.le_of_ble_eq_true rfl))
  | (with_reducible refine g_I ?hc ?_); (case hc => first
      | exact ⟨by omega, by omega⟩ | exact Or.inl ⟨by omega, by omega⟩ | exact Or.inr ⟨by omega, by omega⟩ | ((with_reducible show (0 : Int) < _); omega) | exact ⟨by omega, by omega, by omega⟩ | decide))
local macro_rules | `(tactic| walk_at "g") => `(tactic| repeat (walk_at "g1"))

structure Txt (K : PySem.W.Frag) (mg : Str → Option Value) : Prop where
  z_enumerate : mg "enumerate" = none
  z_int : mg "int" = none
  z_isinstance : mg "isinstance" = none
  z_len : mg "len" = none
  z_max : mg "max" = none
  z_min : mg "min" = none
  z_range : mg "range" = none
  z_str : mg "str" = none
  z_zip : mg "zip" = none
  g_LEAVE_WORDS : ∃ a, mg "LEAVE_WORDS" = some (.ref a) ∧ ∀ H, SqT K H a [V.str "leave", V.str "on", V.str "to", V.str "from", V.str "for", V.str "since", V.str "until", V.str "passes", V.str "under"]
section
variable {P : Program} {w : World} {K : PySem.W.Frag} {mg : Str → Option Value} {base : Heap}
def Ur : UP := fun n _ b c => b.natAbs < 2 ^ 200 ∧ 0 ≤ c ∧ c ≤ n
def spLot : Sp := fun vs H Q _ => ∃ (u : Addr) (n : Nat) (m : Int), vs = [.ref u, .int m] ∧ UA Ur u n H ∧ n < 100000 ∧ 0 < m ∧ m ≤ 1000000000 ∧
  ∀ r H2, 0 ≤ r → r < m → UA Ur u (n + 1) H2 → Kp u H H2 → Q (.int r) H2
theorem ok_lot (A : At K mg "_law_lot" s__law_lot ["urn", "many"]) : Cal P w K mg base 1 "_law_lot" spLot := by
  refine A.of fun f fd F => fn_ok F sc__law_lot (fun vs H Q E h => ?_) (fun cdv A outer s H vs Q E hr h => ?_)
  · obtain ⟨u, n, m, rfl, _⟩ := h
    rfl
  · obtain ⟨u, n, m, rfl, ⟨n1, hn1, hu⟩, hn, hm, hm2, k⟩ := h
    refine ⟨_, [some (.ref u), some (.int m), none, none], rfl, pss_open u (Ur n1) (pss_cons (ps_if (pt_cmpR op_gt (pe_ix ix_list (pv 0) pe_int (fun _ _ => rfl)) pe_int (nomark _))
      (pss_cons (ps_set (i := 2) sc__law_lot.nd rfl (Or.inl rfl) (pe_op op_mod (pe_ix ix_list (pv 0) pe_int (fun _ _ => rfl)) (pv 1)))
      (pss_cons (ps_asg (pe_op op_fdiv (pe_ix ix_list (pv 0) pe_int (fun _ _ => rfl)) (pv 1)) (pg_sub (pv 0) pe_int set_list))
      (pss_one (ps_retU (pv 2)))))
      pss_nil)
      (pss_cons (ps_augL (pv 0) pe_int pe_int ip_add)
      (pss_cons (ps_set (i := 3) sc__law_lot.nd rfl (Or.inl rfl) (pe_op op_mod (pe_op op_powW (pe_op op_add (pe_ix ix_list (pv 0) pe_int (fun _ _ => rfl)) (pe_op op_mul pe_int (pe_ix ix_list (pv 0) pe_int (fun _ _ => rfl)))) pe_int) (pe_op op_add (pe_op op_pow pe_int pe_int) pe_int)))
      (pss_cons (ps_set (i := 3) sc__law_lot.nd rfl (Or.inl rfl) (pe_op op_mod (pe_op op_powW (pe_op op_add (pv 3) (pe_op op_mul (pe_op op_mul pe_int (pe_ix ix_list (pv 0) pe_int (fun _ _ => rfl))) (pe_ix ix_list (pv 0) pe_int (fun _ _ => rfl)))) pe_int) (pe_op op_add (pe_op op_pow pe_int pe_int) pe_int)))
      (pss_one (ps_retU (pe_op op_mod (pe_op op_fdiv (pv 3) pe_int) (pv 1)))))))), ?_⟩
    refine ⟨hu, fun a b c H1 hp h1 k1 => ?_⟩
    obtain ⟨hb, hc, hc2⟩ := hp
    walk_at "g"
    have cc : c ≤ 100000 := by omega
    refine ite2 (fun ha => ?_) (fun ha => ?_)
    · walk_at "g"
      refine' g_setL (by assumption) rfl fun H2 h2 k2 => ?_
      walk_at "g"
      exact ⟨u, Ur n1, _, b, c, h2, ⟨hb, hc, by omega⟩, fun H3 h3 k3 => k _ H3 (Int.emod_nonneg _ (by omega)) (Int.emod_lt_of_pos _ hm) ⟨n1, by omega, h3⟩ (k1.trans (k2.trans k3))⟩
    · walk_at "g"
      refine' g_setL (by assumption) rfl fun H2 h2 k2 => ?_
      walk_at "g"
      refine g_I (pow_ok (a := 240) ?_ (by decide) (by decide) (by decide)) ?_
      · have e : (2 : Nat) ^ 200 + 433494437 * 100001 < 2 ^ 240 := by decide
        omega
      walk_at "g"
      refine g_I (pow_ok (a := 140) (lot_bound (by decide) (by decide) (by omega) (by omega)) (by decide) (by decide) (by decide)) ?_
      walk_at "g"
      exact ⟨u, Ur (n1 + 1), a, b, c + 1, h2, ⟨hb, by omega, by omega⟩, fun H3 h3 k3 => k _ H3 (Int.emod_nonneg _ (by omega)) (Int.emod_lt_of_pos _ hm) ⟨n1 + 1, by omega, h3⟩ (k1.trans (k2.trans k3))⟩
def spNamed : Sp := fun vs H Q _ => ∃ (u : Addr) (n : Nat), vs = [.ref u] ∧ UA Ur u n H ∧ n < 90000 ∧
  ∀ x H2, IsNm x → UA Ur u (n + 11) H2 → Kp u H H2 → Q (.str x) H2
theorem ok_named (T : Txt K mg) (c__law_lot : Cal P w K mg base 1 "_law_lot" spLot) (A : At K mg "_law_named" s__law_named ["urn"]) : Cal P w K mg base 2 "_law_named" spNamed := by
  refine A.of fun f fd F => fn_ok F sc__law_named (fun vs H Q E h => ?_) (fun cdv A outer s H vs Q E hr h => ?_)
  · obtain ⟨u, n, rfl, _⟩ := h
    rfl
  · obtain ⟨u, n, rfl, hU, hn, k⟩ := h
    refine ⟨_, [some (.ref u), none, none, none], rfl, (pss_cons (ps_set (i := 1) sc__law_named.nd rfl (Or.inr rfl) pe_str)
      (pss_cons (ps_set (i := 2) sc__law_named.nd rfl (Or.inl rfl) (pe_lst (pa_cons pe_str (pa_cons pe_str (pa_cons pe_str (pa_cons pe_str (pa_cons pe_str (pa_cons pe_str (pa_cons pe_str (pa_cons pe_str (pa_cons pe_str (pa_cons pe_str (pa_cons pe_str (pa_cons pe_str (pa_cons pe_str pa_nil)))))))))))))))
      (pss_cons (ps_if (pt_cmpR op_gt (pe_c c__law_lot hr (by decide) rfl (pa_cons (pv 0) (pa_cons pe_int pa_nil))) pe_int (nomark _))
      (pss_one (ps_ret (pe_ix ix_list (pv 2) (pe_c c__law_lot hr (by decide) rfl (pa_cons (pv 0) (pa_cons pe_int pa_nil))) (fun _ _ => rfl))))
      pss_nil)
      (pss_one (ps_ret (pe_join pe_str (pe_lc (own := [("k", 3)]) (g := gName 3) (tt := tYes) rfl sc__law_named.nd (pi_range1 rfl T.z_range (pa_cons (pe_op op_add pe_int (pe_c c__law_lot hr (by decide) rfl (pa_cons (pv 0) (pa_cons pe_int pa_nil)))) pa_nil)) (blkOk_by (own := [("k", 3)]) (N := ["urn", "letters", "some", "k"]) (sc := defScope s__law_named) (by decide +kernel)) (fun _ _ _ _ _ => (pg_name (i := 3) sc__law_named.nd rfl (Or.inl rfl))) (fun _ _ _ _ _ => pts_nil) (fun _ _ _ _ _ => (pe_ix ix_str (pv 1) (pe_c c__law_lot hr (by decide) rfl (pa_cons (pv 0) (pa_cons pe_int pa_nil))) (fun _ _ => rfl)))))))))), ?_⟩
    walk_at "g"
    intro p H1 np e1 hp
    walk_at "g"
    refine ⟨u, n, 3, rfl, hU.ex e1, by omega, by omega, by omega, fun r H2 r0 r1 U2 k2 => ?_⟩
    walk_at "g"
    refine ite2 (fun ha => ?_) (fun ha => ?_)
    · walk_at "g"
      refine ⟨u, _, 13, rfl, U2, by omega, by omega, by omega, fun r' H3 r0 r1 U3 k3 => ?_⟩
      walk_at "ix"
      intro v hv
      obtain ⟨x, rfl, hx⟩ := nmV_is (all_mem (by decide +kernel) hv)
      exact k x H3 hx (U3.mono (by omega)) ((Kp.of e1).trans (k2.trans k3))
    · walk_at "g"
      refine ⟨u, _, 8, rfl, U2, by omega, by omega, by omega, fun r' H3 r0 r1 U3 k3 => ?_⟩
      walk_at "g"
      intro D nD
      refine lcR (fun i acc H => UA Ur u (n + 2 + i) H ∧ Kp u H3 H ∧ ∃ l : List Nat, acc = l.map (fun c => V.str ⟨#[c]⟩) ∧ ∀ c ∈ l, 97 ≤ c ∧ c ≤ 122) (by omega) nD ⟨U3, Kp.refl _ _, [], rfl, by simp⟩ (fun i acc H o hP => ⟨hP.1.upd (U3.ne nD), hP.2.1.upd nD, hP.2.2⟩) ?hw ?_ ?_
      case hw => exact wipe1
      · intro i acc H4 R hi ha hD hP kR
        obtain ⟨U4, k4, l, rfl, hl⟩ := hP
        walk_at "g"
        refine ⟨u, _, 26, rfl, U4, by omega, by omega, by omega, fun r'' H5 r0 r1 U5 k5 => ?_⟩
        walk_at "ix"
        intro c hc
        refine kR _ H5 (by walk_at "tr") ⟨U5.mono (by omega), k4.trans k5, l ++ [c], by rw [List.map_append] <;> rfl, fun d hd => ?_⟩
        rcases List.mem_append.mp hd with z | z
        · exact hl d z
        · rw [List.mem_singleton.mp z]
          exact letters_ok hc
      · intro H4 acc ha hD hP
        obtain ⟨U4, k4, l, rfl, hl⟩ := hP
        rw [List.length_map] at ha
        refine ⟨_, D, l.map fun c => ⟨#[c]⟩, rfl, rfl, .inl (by rw [ones_V]; exact SqL.of hD), ?_, ?_⟩
        · rw [ones_sum, List.length_map]
          show l.length + l.length * 0 ≤ 16777216
          omega
        · exact k _ H4 (nm_join (ones_tl l) (by rw [List.length_map]; omega) (by rw [List.length_map]; omega) hl) (U4.mono (by omega)) ((Kp.of e1).trans (k2.trans (k3.trans k4)))

/-- a drawn leave -/
structure LeafD where
  number : Int
  room : Str
  deeds : List Str
  giver : Str
  holder : Str
  since : Int
  til : Int
  passes : Int
  above : Option Int
def aboveV : Option Int → V
  | none => .non
  | some a => .int a
def dLook : Str := "look"
def dSet : Str := "set"
def LeafD.vs (L : LeafD) (d : Addr) : List V := [.int L.number, .str L.room, .ref d, .str L.giver, .str L.holder, .int L.since, .int L.til, .int L.passes, aboveV L.above]
structure LeafD.Ok (L : LeafD) : Prop where
  n0 : 0 ≤ L.number
  n1 : L.number ≤ 999999999
  rm : IsNm L.room
  ds : L.deeds = [dLook] ∨ L.deeds = [dSet] ∨ L.deeds = [dLook, dSet]
  gv : IsNm L.giver
  hd : IsNm L.holder
  ne : L.giver ≠ L.holder
  s0 : 0 ≤ L.since
  su : L.since < L.til
  u1 : L.til ≤ 1000000
  p0 : 0 ≤ L.passes
  p1 : L.passes ≤ 6
  ab : ∀ a, L.above = some a → 0 ≤ a ∧ a < L.number
def LeafAt (H : Hp) (T : Addr) (L : LeafD) : Prop := ∃ d, H T = some (.tup (L.vs d)) ∧ H d = some (.tup (L.deeds.map V.str))
def spLeaf : Sp := fun vs H Q _ => ∃ (u : Addr) (n : Nat), vs = [.ref u] ∧ UA Ur u n H ∧ n < 80000 ∧
  ∀ T L H2, L.Ok → LeafAt H2 T L → H T = none → UA Ur u (n + 60) H2 → Kp u H H2 → Q (.ref T) H2
theorem ok_leaf (T : Txt K mg) (c__law_lot : Cal P w K mg base 1 "_law_lot" spLot) (c__law_named : Cal P w K mg base 2 "_law_named" spNamed) (A : At K mg "_law_leaf" s__law_leaf ["urn"]) : Cal P w K mg base 3 "_law_leaf" spLeaf := by
  refine A.of fun f fd F => fn_ok F sc__law_leaf (fun vs H Q E h => ?_) (fun cdv A outer s H vs Q E hr h => ?_)
  · obtain ⟨u, n, rfl, _⟩ := h
    rfl
  · obtain ⟨u, n, rfl, U0, hn, k⟩ := h
    refine ⟨_, [some (.ref u), none, none, none, none, none, none, none], rfl, (pss_cons (ps_set (i := 1) sc__law_leaf.nd rfl (Or.inl rfl) (pe_ix ix_list (pe_lst (pa_cons pe_int (pa_cons pe_int (pa_cons (pe_c c__law_lot hr (by decide) rfl (pa_cons (pv 0) (pa_cons pe_int pa_nil))) (pa_cons pe_int (pa_cons (pe_c c__law_lot hr (by decide) rfl (pa_cons (pv 0) (pa_cons (pe_op op_pow pe_int pe_int) pa_nil))) pa_nil)))))) (pe_c c__law_lot hr (by decide) rfl (pa_cons (pv 0) (pa_cons pe_int pa_nil))) (fun _ _ => rfl)))
      (pss_cut (ps_set (i := 2) sc__law_leaf.nd rfl (Or.inl rfl) (pe_ifExp (pt_cmpR op_gt (pv 1) pe_int (nomark _)) (pe_ix ix_list (pe_lst (pa_cons pe_non (pa_cons (pe_op op_sub (pv 1) pe_int) (pa_cons (pe_c c__law_lot hr (by decide) rfl (pa_cons (pv 0) (pa_cons (pv 1) pa_nil))) pa_nil)))) (pe_c c__law_lot hr (by decide) rfl (pa_cons (pv 0) (pa_cons pe_int pa_nil))) (fun _ _ => rfl)) pe_non))
      (pss_cons (ps_set (i := 3) sc__law_leaf.nd rfl (Or.inl rfl) (pe_c c__law_named hr (by decide) rfl (pa_cons (pv 0) pa_nil)))
      (pss_cons (ps_set (i := 4) sc__law_leaf.nd rfl (Or.inl rfl) (pe_c c__law_named hr (by decide) rfl (pa_cons (pv 0) pa_nil)))
      (pss_cut (ps_if (pt_cmpR op_eq (pv 4) (pv 3) (nomark _))
      (pss_one (ps_set (i := 4) sc__law_leaf.nd rfl (Or.inl rfl) (pe_ix ix_list (pe_lst (pa_cons pe_str (pa_cons pe_str pa_nil))) (pe_callTy call_int1 (by rfl) T.z_int (by decide +kernel) (pa_cons (pe_cmpR op_eq (pv 3) pe_str (nomark _)) pa_nil)) (fun _ _ => rfl))))
      pss_nil)
      (pss_cons (ps_set (i := 5) sc__law_leaf.nd rfl (Or.inl rfl) (pe_ix ix_list (pe_lst (pa_cons pe_int (pa_cons (pe_c c__law_lot hr (by decide) rfl (pa_cons (pv 0) (pa_cons pe_int pa_nil))) (pa_cons (pe_c c__law_lot hr (by decide) rfl (pa_cons (pv 0) (pa_cons pe_int pa_nil))) (pa_cons pe_int (pa_cons (pe_c c__law_lot hr (by decide) rfl (pa_cons (pv 0) (pa_cons (pe_op op_pow pe_int pe_int) pa_nil))) pa_nil)))))) (pe_c c__law_lot hr (by decide) rfl (pa_cons (pv 0) (pa_cons pe_int pa_nil))) (fun _ _ => rfl)))
      (pss_cons (ps_set (i := 6) sc__law_leaf.nd rfl (Or.inl rfl) (pe_ix ix_list (pe_lst (pa_cons (pe_op op_add (pv 5) pe_int) (pa_cons (pe_op op_pow pe_int pe_int) (pa_cons (pe_op op_add (pe_op op_add (pv 5) pe_int) (pe_c c__law_lot hr (by decide) rfl (pa_cons (pv 0) (pa_cons (pe_op op_sub (pe_op op_pow pe_int pe_int) (pv 5)) pa_nil)))) pa_nil)))) (pe_c c__law_lot hr (by decide) rfl (pa_cons (pv 0) (pa_cons pe_int pa_nil))) (fun _ _ => rfl)))
      (pss_cons (ps_set (i := 7) sc__law_leaf.nd rfl (Or.inl rfl) (pe_ix ix_list (pe_lst (pa_cons (pe_tup (pa_cons pe_str pa_nil)) (pa_cons (pe_tup (pa_cons pe_str pa_nil)) (pa_cons (pe_tup (pa_cons pe_str (pa_cons pe_str pa_nil))) pa_nil)))) (pe_c c__law_lot hr (by decide) rfl (pa_cons (pv 0) (pa_cons pe_int pa_nil))) (fun _ _ => rfl)))
      (pss_one (ps_ret (pe_tup (pa_cons (pv 1) (pa_cons (pe_c c__law_named hr (by decide) rfl (pa_cons (pv 0) pa_nil)) (pa_cons (pv 7) (pa_cons (pv 3) (pa_cons (pv 4) (pa_cons (pv 5) (pa_cons (pv 6) (pa_cons (pe_c c__law_lot hr (by decide) rfl (pa_cons (pv 0) (pa_cons pe_int pa_nil))) (pa_cons (pv 2) pa_nil)))))))))))))))))))), ?_⟩
    try dsimp only [cxOf]
    -- number
    walk_at "g"
    refine ⟨u, n, 60, rfl, U0, by omega, by omega, by omega, fun a1 H1 a10 a11 U1 k1 => ?_⟩
    walk_at "g"
    refine ⟨u, _, _, rfl, U1, by omega, by decide, by decide, fun a2 H2 a20 a21 U2 k2 => ?_⟩
    walk_at "g"
    intro l1 H3 n3 e3 h3
    have U3 := U2.ex e3
    walk_at "g"
    refine ⟨u, _, 5, rfl, U3, by omega, by omega, by omega, fun a3 H4 a30 a31 U4 k4 => ?_⟩
    walk_at "ix"
    intro v hv
    obtain ⟨number, rfl, b0, b1⟩ : ∃ k, v = .int k ∧ 0 ≤ k ∧ k ≤ 999999999 := by
      have z : a2 < 1000000000 := a21
      simp only [List.mem_cons, List.not_mem_nil, or_false] at hv
      rcases hv with rfl | rfl | rfl | rfl | rfl <;> exact ⟨_, rfl, by omega, by omega⟩
    clear hv h3
    have K4 : Kp u H H4 := k1.trans (k2.trans ((Kp.of e3).trans k4))
    clear k1 k2 e3 k4 U1 U2 U3
    -- above
    refine ⟨fun σ' H' => ∃ ab : Option Int, (∀ a, ab = some a → 0 ≤ a ∧ a < number) ∧ σ' = [some (.ref u), some (.int number), some (aboveV ab), none, none, none, none, none] ∧ UA Ur u (n + 5) H' ∧ Kp u H H', ?_, ?_⟩
    · walk_at "g"
      refine ite2 (fun hp => ?_) (fun hp => ?_)
      · have hp' : 0 < number := of_decide_eq_true hp
        walk_at "g"
        refine ⟨u, _, _, rfl, U4, by omega, by omega, by omega, fun a5 H5 a50 a51 U5 k5 => ?_⟩
        walk_at "g"
        intro l2 H6 n6 e6 h6
        have U6 := U5.ex e6
        walk_at "g"
        refine ⟨u, _, 3, rfl, U6, by omega, by omega, by omega, fun a7 H7 a70 a71 U7 k7 => ?_⟩
        walk_at "ix"
        intro v hv
        obtain ⟨ab, rfl, hab⟩ : ∃ ab : Option Int, v = aboveV ab ∧ ∀ a, ab = some a → 0 ≤ a ∧ a < number := by
          simp only [List.mem_cons, List.not_mem_nil, or_false] at hv
          rcases hv with rfl | rfl | rfl
          · exact ⟨none, rfl, (fun a z => by cases z)⟩
          · exact ⟨some _, rfl, fun a z => by cases z; omega⟩
          · exact ⟨some _, rfl, fun a z => by cases z; omega⟩
        exact ⟨ab, hab, rfl, U7.mono (by omega), K4.trans (k5.trans ((Kp.of e6).trans k7))⟩
      · walk_at "g"
        exact ⟨none, (fun a z => by cases z), rfl, U4.mono (by omega), K4⟩
    clear K4 U4
    rintro σ' H5 ⟨ab, hab, rfl, U5, K5⟩
    -- giver, holder
    walk_at "g"
    refine ⟨u, _, rfl, U5, by omega, fun giver H6 hgv U6 k6 => ?_⟩
    walk_at "g"
    refine ⟨u, _, rfl, U6, by omega, fun holder0 H7 hhd0 U7 k7 => ?_⟩
    have K7 : Kp u H H7 := K5.trans (k6.trans k7)
    clear K5 k6 k7 U5 U6
    refine ⟨fun σ' H' => ∃ holder : Str, IsNm holder ∧ giver ≠ holder ∧ σ' = [some (.ref u), some (.int number), some (aboveV ab), some (.str giver), some (.str holder), none, none, none] ∧ UA Ur u (n + 27) H' ∧ Kp u H H', ?_, ?_⟩
    · walk_at "g"
      refine ite2 (fun hp => ?_) (fun hp => ?_)
      · have hp' : holder0 = giver := by simpa using hp
        walk_at "g"
        intro l2 H8 n8 e8 h8
        walk_at "g"
        by_cases hb : giver = "bob"
        · rw [if_pos (by simpa using hb)]
          walk_at "g"
          exact ⟨"carl", (by unfold IsNm; decide +kernel), by rw [hb]; decide +kernel, rfl, (U7.ex e8).mono (by omega), K7.trans (Kp.of e8)⟩
        · rw [if_neg (by simpa using hb)]
          walk_at "g"
          exact ⟨"bob", (by unfold IsNm; decide +kernel), hb, rfl, (U7.ex e8).mono (by omega), K7.trans (Kp.of e8)⟩
      · have hp' : ¬ holder0 = giver := by simpa using hp
        walk_at "g"
        exact ⟨holder0, hhd0, fun z => hp' z.symm, rfl, U7.mono (by omega), K7⟩
    clear K7 U7
    rintro σ' H5 ⟨holder, hhd, hne, rfl, U5, K5⟩
    -- since
    walk_at "g"
    refine ⟨u, _, _, rfl, U5, by omega, by omega, by omega, fun a1 H1 a10 a11 U1 k1 => ?_⟩
    walk_at "g"
    refine ⟨u, _, _, rfl, U1, by omega, by omega, by omega, fun a2 H2 a20 a21 U2 k2 => ?_⟩
    walk_at "g"
    refine ⟨u, _, _, rfl, U2, by omega, by decide, by decide, fun a3 H3 a30 a31 U3 k3 => ?_⟩
    walk_at "g"
    intro l1 H4 n4 e4 h4
    have U4 := U3.ex e4
    walk_at "g"
    refine ⟨u, _, 5, rfl, U4, by omega, by omega, by omega, fun a6 H6 a60 a61 U6 k6 => ?_⟩
    walk_at "ix"
    intro v hv
    obtain ⟨since, rfl, s0, s1⟩ : ∃ k, v = .int k ∧ 0 ≤ k ∧ k ≤ 999999 := by
      have z : a3 < 1000000 := a31
      simp only [List.mem_cons, List.not_mem_nil, or_false] at hv
      rcases hv with rfl | rfl | rfl | rfl | rfl <;> exact ⟨_, rfl, by omega, by omega⟩
    have K6 : Kp u H H6 := K5.trans (k1.trans (k2.trans (k3.trans ((Kp.of e4).trans k6))))
    clear hv h4 n4 k1 k2 k3 e4 k6 K5 U1 U2 U3 U4 U5
    -- until
    have e6 : (10 : Int) ^ Int.toNat 6 = 1000000 := by decide
    walk_at "g"
    refine ⟨u, _, _, rfl, U6, by omega, by rw [e6]; omega, by rw [e6]; omega, fun a1 H1 a10 a11 U1 k1 => ?_⟩
    rw [e6] at a11
    walk_at "g"
    intro l1 H4 n4 e4 h4
    have U4 := U1.ex e4
    walk_at "g"
    refine ⟨u, _, 3, rfl, U4, by omega, by omega, by omega, fun a2 H7 a20 a21 U7 k7 => ?_⟩
    walk_at "ix"
    intro v hv
    obtain ⟨til, rfl, t0, t1⟩ : ∃ k, v = .int k ∧ since < k ∧ k ≤ 1000000 := by
      rw [e6] at hv
      simp only [List.mem_cons, List.not_mem_nil, or_false] at hv
      rcases hv with rfl | rfl | rfl <;> exact ⟨_, rfl, by omega, by omega⟩
    have K7 : Kp u H H7 := K6.trans (k1.trans ((Kp.of e4).trans k7))
    clear hv h4 n4 k1 e4 k7 K6 U1 U4 U6
    -- deeds
    walk_at "g"
    intro d1 G1 m1 f1 g1
    walk_at "g"
    intro d2 G2 m2 f2 g2
    walk_at "g"
    intro d3 G3 m3 f3 g3
    walk_at "g"
    intro l1 G4 m4 f4 g4
    have U8 : UA Ur u (n + 27 + 1 + 1 + 1 + 1 + 1 + 1) G4 := ((((U7.ex f1).ex f2).ex f3).ex f4)
    have K8 : Kp u H G4 := K7.trans (Kp.of (((f1.trans f2).trans f3).trans f4))
    have q1 := f4 _ _ (f3 _ _ (f2 _ _ g1))
    have q2 := f4 _ _ (f3 _ _ g2)
    have q3 := f4 _ _ g3
    clear f1 f2 f3 g1 g2 g3 U7 K7
    walk_at "g"
    refine ⟨u, _, 3, rfl, U8, by omega, by omega, by omega, fun a2 H8 a20 a21 U9 k9 => ?_⟩
    walk_at "ix"
    intro v hv
    obtain ⟨d, ds, rfl, hds, hd⟩ : ∃ (d : Addr) (ds : List Str), v = .ref d ∧ (ds = [dLook] ∨ ds = [dSet] ∨ ds = [dLook, dSet]) ∧ H8 d = some (.tup (ds.map V.str)) := by
      simp only [List.mem_cons, List.not_mem_nil, or_false] at hv
      rcases hv with rfl | rfl | rfl
      · exact ⟨_, [dLook], rfl, .inl rfl, kp_tup k9 U8.ix q1⟩
      · exact ⟨_, [dSet], rfl, .inr (.inl rfl), kp_tup k9 U8.ix q2⟩
      · exact ⟨_, [dLook, dSet], rfl, .inr (.inr rfl), kp_tup k9 U8.ix q3⟩
    have K9 := K8.trans k9
    clear hv q1 q2 q3 K8 k9
    -- the leave
    walk_at "g"
    refine ⟨u, _, rfl, U9, by omega, fun room G5 hrm U10 k10 => ?_⟩
    walk_at "g"
    refine ⟨u, _, 7, rfl, U10, by omega, by omega, by omega, fun passes G6 p0 p1 U11 k11 => ?_⟩
    walk_at "g"
    intro t G7 m7 f7 g7
    have hd7 := f7 _ _ (kp_tup k11 U10.ix (kp_tup k10 U9.ix hd))
    have K7 : Kp u H G7 := K9.trans (k10.trans (k11.trans (Kp.of f7)))
    exact k t ⟨number, room, ds, giver, holder, since, til, passes, ab⟩ G7 ⟨b0, b1, hrm, hds, hgv, hhd, hne, s0, t0, t1, p0, (by show passes ≤ 6; omega), hab⟩ ⟨d, g7, hd7⟩ (U0.nil (K9.trans (k10.trans k11)) U11 m7) ((U11.ex f7).mono (by omega)) K7

def spDeeds (K : PySem.W.Frag) : Sp := fun vs H Q _ => ∃ (d : Addr) (ds : List Str), vs = [.ref d] ∧ SqT K H d (ds.map V.str) ∧ ds.length ≤ 10 ∧ (∀ x ∈ ds, x.length ≤ 100) ∧ Q (.str (Txt.join (Str.ofString "+") ds)) H
theorem ok_deeds (A : At K mg "show_deeds" s_show_deeds ["deeds"]) : Cal P w K mg base 1 "show_deeds" (spDeeds K) := by
  refine A.of fun f fd F => fn_ok F sc_show_deeds (fun vs H Q E h => ?_) (fun cdv A outer s H vs Q E hr h => ?_)
  · obtain ⟨d, ds, rfl, _⟩ := h
    rfl
  · obtain ⟨d, ds, rfl, hd, hl, hx, k⟩ := h
    refine ⟨_, [some (.ref d)], rfl, (pss_one (ps_ret (pe_join pe_str (pv 0)))), ?_⟩
    try dsimp only [cxOf]
    walk_at "g"
    refine ⟨_, d, ds, rfl, rfl, .inr hd, ?_, k⟩
    have e := lens_sum hx
    have e1 : (Str.ofString "+").length = 1 := by decide +kernel
    rw [e1]
    omega
def spPairs (K : PySem.W.Frag) : Sp := fun vs H Q _ => ∃ (a b : Addr) (ws : List Str) (ps : List V), vs = [.ref a, .ref b] ∧ SqT K H a (ws.map V.str) ∧ SqT K H b ps ∧ ws.length = ps.length ∧ ws.length ≤ 20 ∧ (∀ x ∈ ws, x.length ≤ 100) ∧ ps.all partB = true ∧
  ∀ H2, Ex H H2 → Q (.str (Txt.join (Str.ofString " ") (List.zipWith pairS ws ps))) H2
theorem ok_pairs (T : Txt K mg) (A : At K mg "_show_pairs" s__show_pairs ["words", "parts"]) : Cal P w K mg base 1 "_show_pairs" (spPairs K) := by
  refine A.of fun f fd F => fn_ok F sc__show_pairs (fun vs H Q E h => ?_) (fun cdv A outer s H vs Q E hr h => ?_)
  · obtain ⟨a, b, ws, ps, rfl, _⟩ := h
    rfl
  · obtain ⟨a, b, ws, ps, rfl, ha, hb, hl, hl2, hw, hp, k⟩ := h
    refine ⟨_, [some (.ref a), some (.ref b), none, none], rfl, (pss_one (ps_ret (pe_join pe_str (pe_lc (own := [("word", 2), ("part", 3)]) (g := gTup _ 2 (gCons (gName 2) (gCons (gName 3) gNil))) (tt := tYes) rfl sc__show_pairs.nd (RZ.pi_zipA rfl T.z_zip (pa_cons (pv 0) (pa_cons (pv 1) pa_nil))) (blkOk_by (own := [("word", 2), ("part", 3)]) (N := ["words", "parts", "word", "part"]) (sc := defScope s__show_pairs) (by decide +kernel)) (fun _ _ _ _ _ => (pg_tup rfl (pgs_cons (pg_name (i := 2) sc__show_pairs.nd rfl (Or.inl rfl)) (pgs_cons (pg_name (i := 3) sc__show_pairs.nd rfl (Or.inl rfl)) pgs_nil)))) (fun _ _ _ _ _ => pts_nil) (fun _ _ _ _ _ => (pe_joinN (PJ.cons (pe_fmt (pv 2)) (PJ.cons pe_str (PJ.cons (pe_fmt (pv 3)) PJ.nil))))))))), ?_⟩
    try dsimp only [cxOf]
    walk_at "g"
    refine ⟨a, b, ws.map V.str, ps, rfl, .inr ⟨ha, hb, ?_⟩⟩
    intro D nD
    refine lcZ (Sa := fun H xs => SqT K H a xs) (Sb := fun H xs => SqT K H b xs) (xs := ws.map V.str) (ys := ps) (fun i acc H' => Ex H H' ∧ acc = ((List.zipWith pairS ws ps).take i).map V.str) (by rw [List.length_map]; exact hl) (by rw [List.length_map]; omega) nD ⟨Ex.refl _, rfl⟩ (fun i acc H' o q => ⟨Ex.mut q.1 nD, q.2⟩) (fun i acc H' H2 e q => ⟨q.1.trans e, q.2⟩) (fun i acc H' q => ⟨ex_t q.1 ha, ex_t q.1 hb⟩) ?hw ?_ ?_
    case hw => exact wipe2 (by decide)
    · intro i x y acc H2 R hx hy hi hD hP kR
      obtain ⟨e2, rfl⟩ := hP
      obtain ⟨wd, hwd, rfl⟩ : ∃ wd, ws[i]? = some wd ∧ x = .str wd := by
        rw [List.getElem?_map] at hx
        cases e : ws[i]? with
        | none => rw [e] at hx; cases hx
        | some z => rw [e] at hx; exact ⟨z, rfl, (Option.some.inj hx).symm⟩
      have hwl := hw wd (List.mem_of_getElem? hwd)
      have hpl : partB y = true := all_mem hp (List.mem_of_getElem? hy)
      have z1 := len_app e0_len hwl
      have z2 := len_app z1 e1_len
      walk_at "g"
      refine .inl ⟨_, rfl, small_sz (by omega), _, rfl, sz_app e0_len hwl, ?_⟩
      walk_at "g"
      refine ⟨_, rfl, sz_app z1 e1_len, ?_⟩
      walk_at "g"
      rcases partB_is hpl with ⟨x, rfl, hx⟩ | ⟨j, rfl, hj⟩
      · refine .inl ⟨_, rfl, small_sz (by omega), _, rfl, sz_app z2 hx, ?_⟩
        walk_at "g"
        exact kR _ H2 hD ⟨e2, (zw_get hwd hy).symm⟩
      · refine .inr ⟨_, rfl, log_ok hj, _, rfl, sz_app z2 (numlen hj), ?_⟩
        walk_at "g"
        exact kR _ H2 hD ⟨e2, (zw_get hwd hy).symm⟩
    · intro H2 acc hi hD hP
      obtain ⟨e2, rfl⟩ := hP
      have en : (List.zipWith pairS ws ps).take (ws.map V.str).length = List.zipWith pairS ws ps := List.take_of_length_le (by rw [List.length_zipWith, List.length_map]; omega)
      rw [en] at hD
      have e := lens_sum (zw_len hw hp)
      rw [List.length_zipWith] at e
      refine ⟨_, D, List.zipWith pairS ws ps, rfl, rfl, .inl (SqL.of hD), ?_, k H2 e2⟩
      have e1 := e1_len
      have e3 : (List.zipWith pairS ws ps).length ≤ 20 := by
        rw [List.length_zipWith]
        omega
      have e4 : (List.zipWith pairS ws ps).length * (Str.ofString " ").length ≤ 20 * 1 := Nat.mul_le_mul e3 e1
      have e5 : min ws.length ps.length * 202 ≤ 20 * 202 := Nat.mul_le_mul_right _ (by omega)
      omega
def LW : List Str := ["leave", "on", "to", "from", "for", "since", "until", "passes", "under"]
def underV : Option Int → V
  | none => .str "none"
  | some a => .int a
def LeafD.parts (L : LeafD) : List V := [.int L.number, .str L.room, .str (Txt.join (Str.ofString "+") L.deeds), .str L.giver, .str L.holder, .int L.since, .int L.til, .int L.passes, underV L.above]
def leafTxt (L : LeafD) : Str := Txt.join (Str.ofString " ") (List.zipWith pairS LW L.parts)
theorem deeds_len {ds : List Str} (h : ds = [dLook] ∨ ds = [dSet] ∨ ds = [dLook, dSet]) : (Txt.join (Str.ofString "+") ds).length ≤ 100 ∧ ds.length ≤ 10 ∧ ∀ x ∈ ds, x.length ≤ 100 := by
  have e1 : dLook.length ≤ 100 := by decide +kernel
  have e2 : dSet.length ≤ 100 := by decide +kernel
  rcases h with rfl | rfl | rfl
  · exact ⟨by decide +kernel, by decide, fun x m => by rw [List.mem_singleton.mp m]; exact e1⟩
  · exact ⟨by decide +kernel, by decide, fun x m => by rw [List.mem_singleton.mp m]; exact e2⟩
  · refine ⟨by decide +kernel, by decide, fun x m => ?_⟩
    rcases List.mem_cons.mp m with z | z
    · rw [z]
      exact e1
    · rw [List.mem_singleton.mp z]
      exact e2
theorem LeafD.Ok.parts {L : LeafD} (h : L.Ok) : L.parts.all partB = true := by
  have e1 := h.rm.len
  have e2 := h.gv.len
  have e3 := h.hd.len
  have e4 := (deeds_len h.ds).1
  have n0 := h.n0
  have n1 := h.n1
  have s0 := h.s0
  have su := h.su
  have u1 := h.u1
  have p0 := h.p0
  have p1 := h.p1
  have eu : partB (underV L.above) = true := by
    cases z : L.above with
    | none => decide +kernel
    | some a =>
      have q := h.ab a z
      exact decide_eq_true (show a.natAbs < 2 ^ 100 by omega)
  simp only [LeafD.parts, List.all_cons, List.all_nil, Bool.and_true, Bool.and_eq_true]
  exact ⟨decide_eq_true (show L.number.natAbs < 2 ^ 100 by omega), decide_eq_true (show L.room.length ≤ 100 by omega), decide_eq_true e4, decide_eq_true (show L.giver.length ≤ 100 by omega), decide_eq_true (show L.holder.length ≤ 100 by omega),
    decide_eq_true (show L.since.natAbs < 2 ^ 100 by omega), decide_eq_true (show L.til.natAbs < 2 ^ 100 by omega), decide_eq_true (show L.passes.natAbs < 2 ^ 100 by omega), eu⟩
theorem LW_len : ∀ x ∈ LW, x.length ≤ 100 := fun x m => of_decide_eq_true (List.all_eq_true.mp (show LW.all (fun x => decide (x.length ≤ 100)) = true by decide +kernel) x m)
def spShow (K : PySem.W.Frag) : Sp := fun vs H Q _ => ∃ (t d : Addr) (L : LeafD), vs = [.ref t] ∧ SqT K H t (L.vs d) ∧ SqT K H d (L.deeds.map V.str) ∧ L.Ok ∧ ∀ H2, Ex H H2 → Q (.str (leafTxt L)) H2
theorem fn_show (T : Txt K mg) (c_show_deeds : Cal P w K mg base 1 "show_deeds" (spDeeds K)) (c__show_pairs : Cal P w K mg base 1 "_show_pairs" (spPairs K)) {f : Addr} {fd : FuncData} (F : Fun K "show_leave" "show_leave" s_show_leave f fd) : FnOk P w K mg base CX0 2 f fd ["leave"] (spShow K) := by
  refine fn_ok F sc_show_leave (fun vs H Q E h => ?_) (fun cdv A outer s H vs Q E hr h => ?_)
  · obtain ⟨t, d, L, rfl, _⟩ := h
    rfl
  · obtain ⟨t, d, L, rfl, ht, hd, hL, k⟩ := h
    obtain ⟨aw, q_LEAVE_WORDS, sw⟩ := T.g_LEAVE_WORDS
    refine ⟨_, [some (.ref t), none, none, none, none, none, none, none, none, none, none, none], rfl, (pss_cons (ps_asg (pv 0) (pg_tup rfl (pgs_cons (pg_name (i := 1) sc_show_leave.nd rfl (Or.inl rfl)) (pgs_cons (pg_name (i := 2) sc_show_leave.nd rfl (Or.inl rfl)) (pgs_cons (pg_name (i := 3) sc_show_leave.nd rfl (Or.inl rfl)) (pgs_cons (pg_name (i := 4) sc_show_leave.nd rfl (Or.inl rfl)) (pgs_cons (pg_name (i := 5) sc_show_leave.nd rfl (Or.inl rfl)) (pgs_cons (pg_name (i := 6) sc_show_leave.nd rfl (Or.inl rfl)) (pgs_cons (pg_name (i := 7) sc_show_leave.nd rfl (Or.inl rfl)) (pgs_cons (pg_name (i := 8) sc_show_leave.nd rfl (Or.inl rfl)) (pgs_cons (pg_name (i := 9) sc_show_leave.nd rfl (Or.inl rfl)) pgs_nil)))))))))))
      (pss_cut (ps_set (i := 10) sc_show_leave.nd rfl (Or.inl rfl) (pe_ifExp (pt_cmpR op_isN (pv 9) pe_non (nomark _)) pe_str (pv 9)))
      (pss_cons (ps_set (i := 11) sc_show_leave.nd rfl (Or.inl rfl) (pe_tup (pa_cons (pv 1) (pa_cons (pv 2) (pa_cons (pe_c c_show_deeds hr (by decide) rfl (pa_cons (pv 3) pa_nil)) (pa_cons (pv 4) (pa_cons (pv 5) (pa_cons (pv 6) (pa_cons (pv 7) (pa_cons (pv 8) (pa_cons (pv 10) pa_nil)))))))))))
      (pss_one (ps_ret (pe_c c__show_pairs hr (by decide) rfl (pa_cons (pe_glob (v := .ref _) rfl q_LEAVE_WORDS rfl) (pa_cons (pv 11) pa_nil)))))))), ?_⟩
    try dsimp only [cxOf]
    unfold LeafD.vs at ht
    walk_at "g"
    refine ⟨fun σ' H' => σ' = [some (.ref t), some (.int L.number), some (.str L.room), some (.ref d), some (.str L.giver), some (.str L.holder), some (.int L.since), some (.int L.til), some (.int L.passes), some (aboveV L.above), some (underV L.above), none] ∧ H' = H, ?_, ?_⟩
    · walk_at "g"
      cases z : L.above with
      | none =>
        refine iteT ?_
        walk_at "g"
        exact ⟨rfl, rfl⟩
      | some a =>
        refine iteF ?_
        walk_at "g"
        exact ⟨rfl, rfl⟩
    rintro σ' H' ⟨rfl, rfl⟩
    walk_at "g"
    obtain ⟨dl1, dl2, dl3⟩ := deeds_len hL.ds
    refine ⟨d, L.deeds, rfl, hd, dl2, dl3, ?_⟩
    walk_at "g"
    intro p H2 np e2 hp
    walk_at "g"
    exact ⟨aw, p, LW, L.parts, rfl, sw H2, SqT.of hp, rfl, by decide, LW_len, hL.parts, fun H3 e3 => k H3 (e2.trans e3)⟩

end
end K07

namespace K07
open PySem PySem.Spec PyProof.Rows L2 Lk Evl




local macro_rules | `(tactic| walk_at "hx") => `(tactic| first
  | exact UA.ix (by assumption)
  | exact UA.ix (UA.ex' (by assumption) (by assumption))
  | exact UA.ix (UA.ex' (by assumption) (UA.ex' (by assumption) (by assumption)))
  | exact UA.ix (UA.ex' (by assumption) (UA.ex' (by assumption) (UA.ex' (by assumption) (by assumption)))))
local macro_rules | `(tactic| walk_at "tr1") => `(tactic| first
  | ((with_reducible show SqL _ _ _ _); first
    | assumption
    | exact .inl (.inl (by assumption))
    | with_reducible refine' ex_l (by assumption) ?_
    | (with_reducible refine' kp_l (by assumption) ?hx ?_); (case hx => walk_at "hx"))
  | ((with_reducible show SqT _ _ _ _); first
    | assumption
    | exact .inl (.inl (by assumption))
    | with_reducible refine' ex_t (by assumption) ?_
    | (with_reducible refine' kp_t (by assumption) ?hx ?_); (case hx => walk_at "hx"))
  | ((with_reducible show _ = some _); first
    | assumption
    | with_reducible refine' ex_lst (by assumption) ?_
    | (with_reducible refine' kp_lst (by assumption) ?hx ?_); (case hx => walk_at "hx")
    | (with_reducible refine' kp_tup (by assumption) ?hx ?_); (case hx => walk_at "hx")
    | (with_reducible refine' kp_dK (by assumption) ?hx ?_); (case hx => walk_at "hx")))
local macro_rules | `(tactic| walk_at "tr") => `(tactic| (repeat (any_goals (walk_at "tr1"))); done)
local macro_rules | `(tactic| walk_at "ix") => `(tactic| first
  | (with_reducible show rIxL _ _ _ _ _); (refine' g_ixLm ?hs ?h0 ?h1 ?hq); (case hs => walk_at "tr"); (case h0 => omega); (case h1 => (simp only [List.length_cons, List.length_nil]; omega)); (case' hq => skip)
  | (with_reducible show rIxT _ _ _ _ _); (refine' g_ixTm ?hs ?h0 ?h1 ?hq); (case hs => walk_at "tr"); (case h0 => omega); (case h1 => (simp only [List.length_cons, List.length_nil]; omega)); (case' hq => skip)
  | (with_reducible show rIxS _ _ _ _); (refine' g_ixSm ?hs ?h0 ?h1 ?hq); (case hs => decide +kernel); (case h0 => omega); (case h1 => exact Int.lt_of_lt_of_le (by assumption) (by decide +kernel)); (case' hq => skip))
local macro_rules | `(tactic| walk_at "g1") => `(tactic| first
  | (with_reducible show tVar _ _ _ _); refine g_var rfl ?_
  | with_reducible refine g_c ?_
  | (with_reducible refine g_seq ?_); (try dsimp only [List.set_cons_succ, List.set_cons_zero])
  | with_reducible refine g_op ?_
  | with_reducible refine g_un ?_
  | with_reducible refine g_I0 ?_
  | with_reducible refine g_U ?_
  | (with_reducible refine g_Eq ?hs ?_); (case hs => rfl)
  | (with_reducible refine g_Ne ?hs ?_); (case hs => rfl)
  | with_reducible refine g_test ?_
  | with_reducible refine g_B ?_
  | with_reducible refine g_ifS ?_
  | with_reducible refine g_asg ?_
  | with_reducible refine g_asgG ?_
  | with_reducible refine g_ret ?_
  | with_reducible refine g_retU ?_
  | with_reducible refine g_drop ?_
  | with_reducible refine g_next ?_
  | with_reducible refine g_name ?_
  | with_reducible refine g_and ?_
  | with_reducible refine g_or ?_
  | with_reducible refine g_not ?_
  | with_reducible refine g_andV ?_
  | with_reducible refine g_orV ?_
  | with_reducible refine g_notV ?_
  | with_reducible refine g_if ?_
  | with_reducible refine g_nil ?_
  | with_reducible refine g_cons ?_
  | with_reducible refine g_call ?_
  | with_reducible refine g_callKw ?_
  | with_reducible refine g_callS ?_
  | with_reducible refine g_cb ?_
  | with_reducible refine g_tup ?_
  | with_reducible refine g_lst ?_
  | with_reducible refine g_ipI ?_
  | with_reducible refine g_sub ?_
  | with_reducible refine g_augS ?_
  | (with_reducible show tAug _ _ _ _ _ _); refine g_aug rfl ?_
  | with_reducible refine g_M1 ?_
  | with_reducible refine g_M0 ?_
  | with_reducible refine g_yes ?_
  | with_reducible refine g_sl ?_
  | with_reducible refine g_nopart ?_
  | with_reducible refine g_part ?_
  | with_reducible refine g_lc ?_
  | with_reducible refine g_join ?_
  | (with_reducible show gTup _ _ _ (V.ref _) _ _ _); (refine' ⟨_, _, rfl, ?hs, ?hl, ?hm⟩); (case hs => walk_at "tr"); (case hl => rfl); (case' hm => skip)
  | (with_reducible show gCons _ _ _ _ _ _); (refine ⟨_, _, rfl, ?_⟩)
  | (with_reducible show gNil _ _ _ _); (refine ⟨rfl, ?_⟩)
  | (with_reducible show V.non = V.non ∧ _); (refine ⟨rfl, ?_⟩)
  | (with_reducible show rSlT _ _ _ _ _ _); (refine' g_slT ?hs ?hn ?hy ?hm); (case hs => walk_at "tr"); (case hn => first | exact fun z => absurd z.2 (Nat.ne_of_beq_eq_false rfl) | exact fun z => absurd z.1 (Nat.ne_of_beq_eq_false rfl)); (case hy => rfl); (case' hm => skip)
  | (with_reducible show rSlL _ _ _ _ _ _); (refine' g_slL ?hs ?hm); (case hs => walk_at "tr"); (case' hm => skip)
  | with_reducible refine g_js ?_
  | with_reducible refine g_js0 ?_
  | with_reducible refine g_fmt ?_
  | with_reducible refine g_for ?_
  | with_reducible refine g_iR1 ?_
  | with_reducible refine g_iL ?_
  | with_reducible refine g_iT ?_
  | with_reducible refine g_iE ?_
  | with_reducible refine g_iZ ?_
  | (with_reducible show ∃ k, V.bl _ = V.bl k ∧ _); refine ⟨_, rfl, ?_⟩
  | (with_reducible show ∃ k, V.int _ = V.int k ∧ _); refine ⟨_, rfl, ?_⟩
  | (with_reducible show (∃ a, V.str _ = V.str a) ∧ _); refine ⟨⟨_, rfl⟩, ?_⟩
  | (with_reducible show ∃ j : Int, [V.int _] = [V.int j] ∧ -(2 ^ 62) ≤ j ∧ _); (refine ⟨_, rfl, ?h0, ?h1, ?hm⟩); (case h0 => omega); (case h1 => omega); (case' hm => skip)
  | (with_reducible show ∃ i j : Int, [V.int _, V.int _] = [V.int i, V.int j] ∧ _); (refine ⟨_, _, rfl, ?_⟩)
  | (with_reducible show (∃ i : Int, [V.bl _] = [V.int i] ∧ _) ∨ _); (refine .inr ⟨_, rfl, ?_⟩)
  | (with_reducible show (∃ i : Int, [V.int _] = [V.int i] ∧ _) ∨ _); (refine .inl ⟨_, rfl, ?_⟩)
  | (with_reducible show ∃ a, V.ref _ = V.ref a ∧ (∃ xs, SqL _ _ a xs) ∧ _); (refine' ⟨_, rfl, ⟨_, ?hs⟩, ?hm⟩); (case hs => walk_at "tr"); (case' hm => skip)
  | (with_reducible show ∃ a, V.ref _ = V.ref a ∧ (∃ xs, SqT _ _ a xs) ∧ _); (refine' ⟨_, rfl, ⟨_, ?hs⟩, ?hm⟩); (case hs => walk_at "tr"); (case' hm => skip)
  | (with_reducible show ∃ a xs, [V.ref _] = [V.ref a] ∧ SqL _ _ a xs ∧ _); (refine' ⟨_, _, rfl, ?hs, ?hm⟩); (case hs => walk_at "tr"); (case' hm => skip)
  | (with_reducible show rIxL _ _ _ _ _); (refine' g_ixL ?hs ?ha ?hm); (case hs => walk_at "tr"); (case ha => rfl); (case' hm => skip)
  | (with_reducible show rIxT _ _ _ _ _); (refine' g_ixT ?hs ?ha ?hm); (case hs => walk_at "tr"); (case ha => rfl); (case' hm => skip)
  | (with_reducible show rGetL _ _ _ _ _); (refine' g_getL ?hs ?h0 ?ha ?hm); (case hs => walk_at "tr"); (case h0 => decide); (case ha => rfl); (case' hm => skip)
  | (with_reducible refine g_newL ?hz ?_); (case hz => exact small_sz (Nat.le_of_ble_eq_true rfl))
  | (with_reducible refine g_newT ?hz ?_); (case hz => exact small_sz (Nat.le_of_ble_eq_true rfl))
  | (with_reducible refine g_I ?hc ?_); (case hc => first
      | exact ⟨by omega, by omega⟩ | exact Or.inl ⟨by omega, by omega⟩ | exact Or.inr ⟨by omega, by omega⟩ | ((with_reducible show (0 : Int) < _); omega) | exact ⟨by omega, by omega, by omega⟩ | decide))
local macro_rules | `(tactic| walk_at "g") => `(tactic| repeat (walk_at "g1"))

section
variable {P : Program} {w : World} {K : PySem.W.Frag} {mg : Str → Option Value} {base : Heap}
theorem join_len {S : Str} {ys : List Str} {a b : Nat} (hS : S.length ≤ a) (h : ∀ x ∈ ys, x.length ≤ b) : (Txt.join S ys).length ≤ ys.length * (a + b) := by
  rw [TL.len_tl, TL.join_eq, TL.tl_join]
  have hS2 : (TL.tl S).length ≤ a := by rw [← TL.len_tl]; exact hS
  have go : ∀ l : List Str, (∀ x ∈ l, x.length ≤ b) → (TL.joinL (TL.tl S) (l.map TL.tl)).length ≤ l.length * (a + b) := by
    intro l
    induction l with
    | nil => intro _; exact Nat.zero_le _
    | cons x r ih =>
      intro h
      have h1 : (TL.tl x).length ≤ b := by rw [← TL.len_tl]; exact h x (List.mem_cons_self ..)
      have h2 := ih fun y m => h y (List.mem_cons_of_mem _ m)
      cases r with
      | nil =>
        show (TL.tl x).length ≤ 1 * (a + b)
        omega
      | cons y q =>
        show (TL.tl x ++ (TL.tl S ++ TL.joinL (TL.tl S) ((y :: q).map TL.tl))).length ≤ _
        rw [List.length_append, List.length_append, List.length_cons, Nat.succ_mul]
        omega
  exact go ys h
theorem leafTxt_eq (L : LeafD) : leafTxt L = (Txt.join (Str.ofString " ") (List.zipWith pairS (LW.take 8) (L.parts.take 8)) ++ Str.ofString " under ") ++ partS (underV L.above) := by
  have e : List.zipWith pairS LW L.parts = List.zipWith pairS (LW.take 8) (L.parts.take 8) ++ [pairS (Str.ofString "under") (underV L.above)] := rfl
  unfold leafTxt
  rw [e, join_snoc _ _ (fun z => by cases z), pairS_eq, app_assoc, show Str.ofString " under " = Str.ofString " " ++ (Str.ofString "under" ++ Str.ofString " ") by decide +kernel, app_assoc, app_assoc, app_assoc]
def spLine (K : PySem.W.Frag) : Sp := fun vs H Q _ => ∃ (t d : Addr) (L : LeafD), vs = [.ref t] ∧ SqT K H t (L.vs d) ∧ SqT K H d (L.deeds.map V.str) ∧ L.Ok ∧ ∀ H2, Ex H H2 → Q (.str (leafTxt L)) H2
theorem ok_line (T : Txt K mg) (A : At K mg "_law_line" s__law_line ["leaf"]) : Cal P w K mg base 1 "_law_line" (spLine K) := by
  refine A.of fun f fd F => fn_ok F sc__law_line (fun vs H Q E h => ?_) (fun cdv A outer s H vs Q E hr h => ?_)
  · obtain ⟨t, d, L, rfl, _⟩ := h
    rfl
  · obtain ⟨t, d, L, rfl, ht, hd, hL, k⟩ := h
    refine ⟨_, [some (.ref t), none, none, none, none, none, none, none, none, none, none, none, none, none, none], rfl, (pss_cons (ps_asg (pe_slice sl_tup (pv 0) po_none (po_some pe_int)) (pg_tup rfl (pgs_cons (pg_name (i := 1) sc__law_line.nd rfl (Or.inl rfl)) (pgs_cons (pg_name (i := 2) sc__law_line.nd rfl (Or.inl rfl)) (pgs_cons (pg_name (i := 3) sc__law_line.nd rfl (Or.inl rfl)) (pgs_cons (pg_name (i := 4) sc__law_line.nd rfl (Or.inl rfl)) (pgs_cons (pg_name (i := 5) sc__law_line.nd rfl (Or.inl rfl)) pgs_nil)))))))
      (pss_cons (ps_asg (pe_slice sl_tup (pv 0) (po_some pe_int) po_none) (pg_tup rfl (pgs_cons (pg_name (i := 6) sc__law_line.nd rfl (Or.inl rfl)) (pgs_cons (pg_name (i := 7) sc__law_line.nd rfl (Or.inl rfl)) (pgs_cons (pg_name (i := 8) sc__law_line.nd rfl (Or.inl rfl)) (pgs_cons (pg_name (i := 9) sc__law_line.nd rfl (Or.inl rfl)) pgs_nil))))))
      (pss_cons (ps_set (i := 10) sc__law_line.nd rfl (Or.inl rfl) (pe_lst (pa_cons (pv 1) (pa_cons (pv 2) (pa_cons (pe_join pe_str (pv 3)) (pa_cons (pv 4) (pa_cons (pv 5) (pa_cons (pv 6) (pa_cons (pv 7) (pa_cons (pv 8) pa_nil))))))))))
      (pss_cons (ps_set (i := 11) sc__law_line.nd rfl (Or.inl rfl) (pe_lst (pa_cons pe_str (pa_cons pe_str (pa_cons pe_str (pa_cons pe_str (pa_cons pe_str (pa_cons pe_str (pa_cons pe_str (pa_cons pe_str pa_nil))))))))))
      (pss_cons (ps_set (i := 12) sc__law_line.nd rfl (Or.inl rfl) (pe_join pe_str (pe_lc (own := [("word", 13), ("part", 14)]) (g := gTup _ 2 (gCons (gName 13) (gCons (gName 14) gNil))) (tt := tYes) rfl sc__law_line.nd (RZ.pi_zipA rfl T.z_zip (pa_cons (pv 11) (pa_cons (pv 10) pa_nil))) (blkOk_by (own := [("word", 13), ("part", 14)]) (N := ["leaf", "number", "room", "deeds", "giver", "holder", "since", "until", "passes", "above", "told", "words", "line", "word", "part"]) (sc := defScope s__law_line) (by decide +kernel)) (fun _ _ _ _ _ => (pg_tup rfl (pgs_cons (pg_name (i := 13) sc__law_line.nd rfl (Or.inl rfl)) (pgs_cons (pg_name (i := 14) sc__law_line.nd rfl (Or.inl rfl)) pgs_nil)))) (fun _ _ _ _ _ => pts_nil) (fun _ _ _ _ _ => (pe_op op_add_str (pe_op op_add_str (pv 13) pe_str) (pe_callTy (CallR.or call_str_int SkE.call_str_str) (by rfl) T.z_str (by decide +kernel) (pa_cons (pv 14) pa_nil)))))))
      (pss_one (ps_ret (pe_op op_add_str (pe_op op_add_str (pv 12) pe_str) (pe_ifExp (pt_cmpR op_isN (pv 9) pe_non (nomark _)) pe_str (pe_callTy (CallR.or call_str_int SkE.call_str_str) (by rfl) T.z_str (by decide +kernel) (pa_cons (pv 9) pa_nil))))))))))), ?_⟩
    try dsimp only [cxOf]
    unfold LeafD.vs at ht
    walk_at "g"
    intro p1 H1 n1 e1 h1
    walk_at "g"
    intro p2 H2 n2 e2 h2
    walk_at "g"
    obtain ⟨dl1, dl2, dl3⟩ := deeds_len hL.ds
    have q1 := hL.rm.len
    have q2 := hL.gv.len
    have q3 := hL.hd.len
    have jb : ∀ {ys : List Str} {S : Str} {n b : Nat}, (∀ x ∈ ys, x.length ≤ b) → ys.length ≤ n → S.length ≤ 10 → n * b + n * 10 ≤ 16777216 → (ys.map (·.length)).sum + ys.length * S.length ≤ 16777216 := by
      intro ys S n b h1 h2 h3 h4
      have e1 := lens_sum h1
      have e2 : ys.length * b ≤ n * b := Nat.mul_le_mul_right _ h2
      have e3 : ys.length * S.length ≤ n * 10 := Nat.mul_le_mul h2 h3
      omega
    refine ⟨_, d, L.deeds, rfl, rfl, .inr (by walk_at "tr"), jb dl3 dl2 (by decide +kernel) (by decide), ?_⟩
    walk_at "g"
    intro p3 H3 n3 e3 h3
    walk_at "g"
    intro p4 H4 n4 e4 h4
    have eH : Ex H H4 := ((e1.trans e2).trans e3).trans e4
    have h3' := e4 _ _ h3
    walk_at "g"
    refine ⟨p4, p3, _, _, rfl, .inl ⟨SqL.of h4, SqL.of h3', ?_⟩⟩
    intro D nD
    refine lcZ (Sa := fun H xs => SqL K H p4 xs) (Sb := fun H xs => SqL K H p3 xs) (xs := (LW.take 8).map V.str) (ys := L.parts.take 8) (fun i acc H' => Ex H4 H' ∧ acc = ((List.zipWith pairS (LW.take 8) (L.parts.take 8)).take i).map V.str) rfl (by decide) nD ⟨Ex.refl _, rfl⟩ (fun i acc H' o q => ⟨Ex.mut q.1 nD, q.2⟩) (fun i acc H' H2 e q => ⟨q.1.trans e, q.2⟩) (fun i acc H' q => ⟨SqL.of (q.1 _ _ h4), SqL.of (q.1 _ _ h3')⟩) ?hw ?_ ?_
    case hw => exact wipe2 (by decide)
    · intro i x y acc H5 R hx hy hi hD hP kR
      obtain ⟨e5, rfl⟩ := hP
      obtain ⟨wd, hwd, rfl⟩ : ∃ wd, (LW.take 8)[i]? = some wd ∧ x = .str wd := by
        rw [List.getElem?_map] at hx
        cases e : (LW.take 8)[i]? with
        | none => rw [e] at hx; cases hx
        | some z => rw [e] at hx; exact ⟨z, rfl, (Option.some.inj hx).symm⟩
      have hwl := LW_len wd (List.mem_of_mem_take (List.mem_of_getElem? hwd))
      have hpl : partB y = true := all_mem hL.parts (List.mem_of_mem_take (List.mem_of_getElem? hy))
      have z1 := len_app hwl e1_len
      walk_at "g"
      refine ⟨_, _, rfl, rfl, (by exact sz_add hwl e1_len (by decide)), ?_⟩
      walk_at "g"
      rcases partB_is hpl with ⟨x, rfl, hx⟩ | ⟨j, rfl, hj⟩
      · refine .inr ⟨_, rfl, _, _, rfl, rfl, (by exact sz_add z1 hx (by decide)), ?_⟩
        exact kR _ H5 hD ⟨e5, by rw [zw_get hwd hy, pairS_eq] <;> rfl⟩
      · have nl := numlen hj
        refine .inl ⟨_, rfl, log_ok hj, _, _, rfl, rfl, (by exact sz_add z1 nl (by decide)), ?_⟩
        exact kR _ H5 hD ⟨e5, by rw [zw_get hwd hy, pairS_eq] <;> rfl⟩
    · intro H5 acc hi hD hP
      obtain ⟨e5, rfl⟩ := hP
      have en : (List.zipWith pairS (LW.take 8) (L.parts.take 8)).take ((LW.take 8).map V.str).length = List.zipWith pairS (LW.take 8) (L.parts.take 8) := List.take_of_length_le (Nat.le_of_eq rfl)
      rw [en] at hD
      have zl := zw_len (ws := LW.take 8) (ps := L.parts.take 8) (fun x m => LW_len x (List.mem_of_mem_take m)) (List.all_eq_true.mpr fun x m => all_mem hL.parts (List.mem_of_mem_take m))
      have jl := join_len (S := Str.ofString " ") e1_len zl
      have zn : (List.zipWith pairS (LW.take 8) (L.parts.take 8)).length = 8 := rfl
      rw [zn] at jl
      refine ⟨_, D, List.zipWith pairS (LW.take 8) (L.parts.take 8), rfl, rfl, .inl (SqL.of hD), jb zl (Nat.le_of_eq zn) (by decide +kernel) (by decide), ?_⟩
      walk_at "g"
      have eu : (Str.ofString " under ").length = 7 := by decide +kernel
      refine ⟨_, _, rfl, rfl, (by exact sz_add jl (Nat.le_of_eq eu) (by decide)), ?_⟩
      walk_at "g"
      have zz := len_app jl (Nat.le_of_eq eu)
      cases z : L.above with
      | none =>
        refine iteT ?_
        walk_at "g"
        refine ⟨_, _, rfl, rfl, (by exact sz_add zz (show _ ≤ 100 by decide +kernel) (by decide)), ?_⟩
        have k2 := k H5 (eH.trans e5)
        rw [leafTxt_eq, z] at k2
        exact k2
      | some a =>
        refine iteF ?_
        have q := hL.ab a z
        have n1 := hL.n1
        have ha : a.natAbs < 2 ^ 100 := by omega
        walk_at "g"
        refine .inl ⟨a, rfl, log_ok ha, _, _, rfl, rfl, (by exact sz_add zz (numlen ha) (by decide)), ?_⟩
        have k2 := k H5 (eH.trans e5)
        rw [leafTxt_eq, z] at k2
        exact k2

end
end K07

namespace K07
open PySem PySem.Spec PyProof.Rows L2 Lk Evl




local macro_rules | `(tactic| walk_at "hx") => `(tactic| first
  | exact UA.ix (by assumption)
  | exact UA.ix (UA.ex' (by assumption) (by assumption))
  | exact UA.ix (UA.ex' (by assumption) (UA.ex' (by assumption) (by assumption)))
  | exact UA.ix (UA.ex' (by assumption) (UA.ex' (by assumption) (UA.ex' (by assumption) (by assumption)))))
local macro_rules | `(tactic| walk_at "tr1") => `(tactic| first
  | ((with_reducible show SqL _ _ _ _); first
    | assumption
    | exact .inl (.inl (by assumption))
    | with_reducible refine' ex_l (by assumption) ?_
    | (with_reducible refine' kp_l (by assumption) ?hx ?_); (case hx => walk_at "hx"))
  | ((with_reducible show SqT _ _ _ _); first
    | assumption
    | exact .inl (.inl (by assumption))
    | with_reducible refine' ex_t (by assumption) ?_
    | (with_reducible refine' kp_t (by assumption) ?hx ?_); (case hx => walk_at "hx"))
  | ((with_reducible show _ = some _); first
    | assumption
    | with_reducible refine' ex_lst (by assumption) ?_
    | (with_reducible refine' kp_lst (by assumption) ?hx ?_); (case hx => walk_at "hx")
    | (with_reducible refine' kp_tup (by assumption) ?hx ?_); (case hx => walk_at "hx")
    | (with_reducible refine' kp_dK (by assumption) ?hx ?_); (case hx => walk_at "hx")))
local macro_rules | `(tactic| walk_at "tr") => `(tactic| (repeat (any_goals (walk_at "tr1"))); done)
local macro_rules | `(tactic| walk_at "ix") => `(tactic| first
  | (with_reducible show rIxL _ _ _ _ _); (refine' g_ixLm ?hs ?h0 ?h1 ?hq); (case hs => walk_at "tr"); (case h0 => omega); (case h1 => (simp only [List.length_cons, List.length_nil]; omega)); (case' hq => skip)
  | (with_reducible show rIxT _ _ _ _ _); (refine' g_ixTm ?hs ?h0 ?h1 ?hq); (case hs => walk_at "tr"); (case h0 => omega); (case h1 => (simp only [List.length_cons, List.length_nil]; omega)); (case' hq => skip)
  | (with_reducible show rIxS _ _ _ _); (refine' g_ixSm ?hs ?h0 ?h1 ?hq); (case hs => decide +kernel); (case h0 => omega); (case h1 => exact Int.lt_of_lt_of_le (by assumption) (by decide +kernel)); (case' hq => skip))
local macro_rules | `(tactic| walk_at "g1") => `(tactic| first
  | (with_reducible show tVar _ _ _ _); refine g_var rfl ?_
  | with_reducible refine g_c ?_
  | (with_reducible refine g_seq ?_); (try dsimp only [List.set_cons_succ, List.set_cons_zero])
  | with_reducible refine g_op ?_
  | with_reducible refine g_un ?_
  | with_reducible refine g_I0 ?_
  | with_reducible refine g_U ?_
  | (with_reducible refine g_Eq ?hs ?_); (case hs => rfl)
  | (with_reducible refine g_Ne ?hs ?_); (case hs => rfl)
  | with_reducible refine g_test ?_
  | with_reducible refine g_B ?_
  | with_reducible refine g_ifS ?_
  | with_reducible refine g_asg ?_
  | with_reducible refine g_asgG ?_
  | with_reducible refine g_ret ?_
  | with_reducible refine g_retU ?_
  | with_reducible refine g_drop ?_
  | with_reducible refine g_next ?_
  | with_reducible refine g_name ?_
  | with_reducible refine g_and ?_
  | with_reducible refine g_or ?_
  | with_reducible refine g_not ?_
  | with_reducible refine g_andV ?_
  | with_reducible refine g_orV ?_
  | with_reducible refine g_notV ?_
  | with_reducible refine g_if ?_
  | with_reducible refine g_nil ?_
  | with_reducible refine g_cons ?_
  | with_reducible refine g_call ?_
  | with_reducible refine g_callKw ?_
  | with_reducible refine g_callS ?_
  | with_reducible refine g_cb ?_
  | with_reducible refine g_tup ?_
  | with_reducible refine g_lst ?_
  | with_reducible refine g_ipI ?_
  | with_reducible refine g_sub ?_
  | with_reducible refine g_augS ?_
  | (with_reducible show tAug _ _ _ _ _ _); refine g_aug rfl ?_
  | with_reducible refine g_M1 ?_
  | with_reducible refine g_M0 ?_
  | with_reducible refine g_yes ?_
  | with_reducible refine g_sl ?_
  | with_reducible refine g_nopart ?_
  | with_reducible refine g_part ?_
  | with_reducible refine g_lc ?_
  | with_reducible refine g_join ?_
  | (with_reducible show gTup _ _ _ (V.ref _) _ _ _); (refine' ⟨_, _, rfl, ?hs, ?hl, ?hm⟩); (case hs => walk_at "tr"); (case hl => rfl); (case' hm => skip)
  | (with_reducible show gCons _ _ _ _ _ _); (refine ⟨_, _, rfl, ?_⟩)
  | (with_reducible show gNil _ _ _ _); (refine ⟨rfl, ?_⟩)
  | (with_reducible show V.non = V.non ∧ _); (refine ⟨rfl, ?_⟩)
  | (with_reducible show rSlT _ _ _ _ _ _); (refine' g_slT ?hs ?hn ?hy ?hm); (case hs => walk_at "tr"); (case hn => first | exact fun z => absurd z.2 (Nat.ne_of_beq_eq_false rfl) | exact fun z => absurd z.1 (Nat.ne_of_beq_eq_false rfl)); (case hy => rfl); (case' hm => skip)
  | (with_reducible show rSlL _ _ _ _ _ _); (refine' g_slL ?hs ?hm); (case hs => walk_at "tr"); (case' hm => skip)
  | with_reducible refine g_js ?_
  | with_reducible refine g_js0 ?_
  | with_reducible refine g_fmt ?_
  | with_reducible refine g_for ?_
  | with_reducible refine g_iR1 ?_
  | with_reducible refine g_iL ?_
  | with_reducible refine g_iT ?_
  | with_reducible refine g_iE ?_
  | with_reducible refine g_iZ ?_
  | (with_reducible show ∃ k, V.bl _ = V.bl k ∧ _); refine ⟨_, rfl, ?_⟩
  | (with_reducible show ∃ k, V.int _ = V.int k ∧ _); refine ⟨_, rfl, ?_⟩
  | (with_reducible show (∃ a, V.str _ = V.str a) ∧ _); refine ⟨⟨_, rfl⟩, ?_⟩
  | (with_reducible show ∃ j : Int, [V.int _] = [V.int j] ∧ -(2 ^ 62) ≤ j ∧ _); (refine ⟨_, rfl, ?h0, ?h1, ?hm⟩); (case h0 => omega); (case h1 => omega); (case' hm => skip)
  | (with_reducible show ∃ i j : Int, [V.int _, V.int _] = [V.int i, V.int j] ∧ _); (refine ⟨_, _, rfl, ?_⟩)
  | (with_reducible show (∃ i : Int, [V.bl _] = [V.int i] ∧ _) ∨ _); (refine .inr ⟨_, rfl, ?_⟩)
  | (with_reducible show (∃ i : Int, [V.int _] = [V.int i] ∧ _) ∨ _); (refine .inl ⟨_, rfl, ?_⟩)
  | (with_reducible show ∃ a, V.ref _ = V.ref a ∧ (∃ xs, SqL _ _ a xs) ∧ _); (refine' ⟨_, rfl, ⟨_, ?hs⟩, ?hm⟩); (case hs => walk_at "tr"); (case' hm => skip)
  | (with_reducible show ∃ a, V.ref _ = V.ref a ∧ (∃ xs, SqT _ _ a xs) ∧ _); (refine' ⟨_, rfl, ⟨_, ?hs⟩, ?hm⟩); (case hs => walk_at "tr"); (case' hm => skip)
  | (with_reducible show ∃ a xs, [V.ref _] = [V.ref a] ∧ SqL _ _ a xs ∧ _); (refine' ⟨_, _, rfl, ?hs, ?hm⟩); (case hs => walk_at "tr"); (case' hm => skip)
  | (with_reducible show rIxL _ _ _ _ _); (refine' g_ixL ?hs ?ha ?hm); (case hs => walk_at "tr"); (case ha => rfl); (case' hm => skip)
  | (with_reducible show rIxT _ _ _ _ _); (refine' g_ixT ?hs ?ha ?hm); (case hs => walk_at "tr"); (case ha => rfl); (case' hm => skip)
  | (with_reducible show rGetL _ _ _ _ _); (refine' g_getL ?hs ?h0 ?ha ?hm); (case hs => walk_at "tr"); (case h0 => decide); (case ha => rfl); (case' hm => skip)
  | (with_reducible refine g_newL ?hz ?_); (case hz => exact small_sz (Nat.le_of_ble_eq_true rfl))
  | (with_reducible refine g_newT ?hz ?_); (case hz => exact small_sz (Nat.le_of_ble_eq_true rfl))
  | (with_reducible refine g_I ?hc ?_); (case hc => first
      | exact ⟨by omega, by omega⟩ | exact Or.inl ⟨by omega, by omega⟩ | exact Or.inr ⟨by omega, by omega⟩ | ((with_reducible show (0 : Int) < _); omega) | exact ⟨by omega, by omega, by omega⟩ | decide))
local macro_rules | `(tactic| walk_at "g") => `(tactic| repeat (walk_at "g1"))

section
variable {P : Program} {w : World} {K : PySem.W.Frag} {mg : Str → Option Value} {base : Heap}
def spUrn : Sp := fun vs H Q _ => ∃ (c k : Int), vs = [.int c, .int k] ∧ 0 ≤ k ∧ k ≤ 63 ∧ ∀ u H2, H u = none → UA Ur u 0 H2 → Kp u H H2 → Q (.ref u) H2
theorem ok_urn (T : Txt K mg) (A : At K mg "_law_urn" s__law_urn ["cell", "k"]) : Cal P w K mg base 1 "_law_urn" spUrn := by
  refine A.of fun f fd F => fn_ok F sc__law_urn (fun vs H Q E h => ?_) (fun cdv A outer s H vs Q E hr h => ?_)
  · obtain ⟨c, k, rfl, _⟩ := h
    rfl
  · obtain ⟨c, k, rfl, k0, k1, q⟩ := h
    refine ⟨_, [some (.int c), some (.int k)], rfl, (pss_one (ps_retU (pe_lst (pa_cons (pe_callB (call_max2 rfl) (by rfl) T.z_max (by decide +kernel) (pa_cons pe_int (pa_cons (pe_op op_sub (pv 0) (pe_op op_pow pe_int pe_int)) pa_nil))) (pa_cons (pe_op op_add (pe_op op_mod (pv 0) (pe_op op_add (pe_op op_pow pe_int pe_int) pe_int)) (pe_op op_mul pe_int (pv 1))) (pa_cons pe_int pa_nil)))))), ?_⟩
    try dsimp only [cxOf]
    walk_at "g"
    intro u H2 nu e2 hu
    refine ⟨u, Ur 0, _, _, _, hu, ?_, fun H3 h3 k3 => q u H3 nu ⟨0, Nat.le_refl _, h3⟩ ((Kp.of e2).trans k3)⟩
    have hM : (0 : Int) < 10 ^ Int.toNat 41 + 63 := by decide
    have hM2 : (10 : Int) ^ Int.toNat 41 + 63 < 2 ^ 190 := by decide
    have a := Int.emod_nonneg c (show (10 : Int) ^ Int.toNat 41 + 63 ≠ 0 by omega)
    have b := Int.emod_lt_of_pos c hM
    exact ⟨by omega, by omega, by omega⟩

def spRight : Sp := fun vs H Q _ => ∃ (u : Addr), vs = [.ref u] ∧ UA Ur u 0 H ∧ ∀ H2, Kp u H H2 → UA Ur u 200 H2 → Q (.bl true) H2
theorem ok_right (T : Txt K mg) (c__law_leaf : Cal P w K mg base 3 "_law_leaf" spLeaf) (c__law_line : Cal P w K mg base 1 "_law_line" (spLine K)) (c_show_leave : Cal P w K mg base 2 "show_leave" (spShow K)) (k_show_leave : CalK P w K mg base 2 "show_leave" (spShow K) ["leave"])
    (A : At K mg "_law_right" s__law_right ["urn"]) : Cal P w K mg base 4 "_law_right" spRight := by
  refine A.of fun f fd F => fn_ok F sc__law_right (fun vs H Q E h => ?_) (fun cdv A outer s H vs Q E hr h => ?_)
  · obtain ⟨u, rfl, _⟩ := h
    rfl
  · obtain ⟨u, rfl, hU, k⟩ := h
    refine ⟨_, [some (.ref u), none, none, none, none], rfl, (pss_cons (ps_for PassesOwn.never rfl (pi_range1 rfl T.z_range (pa_cons pe_int pa_nil)) (pg_name (i := 1) sc__law_right.nd rfl (Or.inl rfl))
      (pss_cons (ps_set (i := 2) sc__law_right.nd rfl (Or.inl rfl) (pe_c c__law_leaf hr (by decide) rfl (pa_cons (pv 0) pa_nil)))
      (pss_cons (ps_set (i := 3) sc__law_right.nd rfl (Or.inl rfl) (pe_c c__law_line hr (by decide) rfl (pa_cons (pv 2) pa_nil)))
      (pss_one (ps_for PassesOwn.never rfl (pi_list (pe_lst (pa_cons (pe_c c_show_leave hr (by decide) rfl (pa_cons (pv 2) pa_nil)) (pa_cons (pe_ck k_show_leave hr (by decide) rfl (pk_cons (pv 2) pk_nil)) pa_nil)))) (pg_name (i := 4) sc__law_right.nd rfl (Or.inl rfl))
      (pss_one (ps_if (PW.pt (pw_or (pt_not (pt_val (pe_callB call_isi (by rfl) T.z_isinstance (by decide +kernel) (pa_cons (pv 4) (pa_cons (pe_bltn (v := .ty "str") (by rfl) T.z_str (by decide +kernel) rfl) pa_nil))))) (pw_or1 (pt_cmpR op_ne (pv 4) (pv 3) (nomark _)))))
      (pss_one (ps_ret pe_bl))
      pss_nil)))))))
      (pss_one (ps_ret pe_bl))), ?_⟩
    try dsimp only [cxOf]
    walk_at "g"
    refine for_range (lo := 0) (n := 3) (fun i σ H' => ∃ x1 x2 x3 x4, σ = [some (.ref u), x1, x2, x3, x4] ∧ UA Ur u (60 * i) H' ∧ Kp u H H') ⟨_, _, _, _, rfl, hU, Kp.refl _ _⟩ ?_ ?_
    · rintro i σ H1 hi ⟨x1, x2, x3, x4, rfl, U1, k1⟩
      walk_at "g"
      refine ⟨u, _, rfl, U1, by omega, fun t L H2 hL hT nt U2 k2 => ?_⟩
      obtain ⟨d, ht, hd⟩ := hT
      walk_at "g"
      refine ⟨t, d, L, rfl, SqT.of ht, SqT.of hd, hL, fun H3 e3 => ?_⟩
      walk_at "g"
      refine ⟨t, d, L, rfl, SqT.of (e3 _ _ ht), SqT.of (e3 _ _ hd), hL, fun H4 e4 => ?_⟩
      walk_at "g"
      refine ⟨rfl, t, d, L, rfl, SqT.of (e4 _ _ (e3 _ _ ht)), SqT.of (e4 _ _ (e3 _ _ hd)), hL, fun H5 e5 => ?_⟩
      walk_at "g"
      intro p H6 n6 e6 h6
      walk_at "g"
      have U6 := (((U2.ex e3).ex e4).ex e5).ex e6
      have e36 := ((e3.trans e4).trans e5).trans e6
      have k6 : Kp u H H6 := k1.trans (k2.trans (Kp.of e36))
      refine for_list (xs := [.str (leafTxt L), .str (leafTxt L)]) (fun j σ H' => ∃ x4, σ = [some (.ref u), some (.int (0 + i)), some (.ref t), some (.str (leafTxt L)), x4] ∧ H' = H6) ⟨_, rfl, rfl⟩ ?_ ?_ ?_
      · rintro j σ H' _ ⟨x4, rfl, rfl⟩
        exact SqL.of h6
      · rintro j x σ H' hx ⟨x4, rfl, rfl⟩
        have ex : x = .str (leafTxt L) := by
          have m := List.mem_of_getElem? hx
          simpa using m
        subst ex
        walk_at "g"
        refine g_isi (b := true) (.base (.str _)) (kit_ty (by decide +kernel)) ?_
        walk_at "g"
        refine iteF ?_
        walk_at "g"
        rw [decide_eq_true rfl]
        refine iteF ?_
        walk_at "g"
        exact ⟨_, rfl, rfl⟩
      · rintro σ H' ⟨x4, rfl, rfl⟩
        exact ⟨_, _, _, _, rfl, U6.mono (by omega), k6⟩
    · rintro σ H1 ⟨x1, x2, x3, x4, rfl, U1, k1⟩
      walk_at "g"
      exact k H1 k1 (U1.mono (by omega))

end
end K07

namespace K07
open PySem PySem.Spec PyProof.Rows L2 Lk Evl




local macro_rules | `(tactic| walk_at "hx") => `(tactic| first
  | exact UA.ix (by assumption)
  | exact UA.ix (UA.ex' (by assumption) (by assumption))
  | exact UA.ix (UA.ex' (by assumption) (UA.ex' (by assumption) (by assumption)))
  | exact UA.ix (UA.ex' (by assumption) (UA.ex' (by assumption) (UA.ex' (by assumption) (by assumption)))))
local macro_rules | `(tactic| walk_at "tr1") => `(tactic| first
  | ((with_reducible show SqL _ _ _ _); first
    | assumption
    | exact .inl (.inl (by assumption))
    | with_reducible refine' ex_l (by assumption) ?_
    | (with_reducible refine' kp_l (by assumption) ?hx ?_); (case hx => walk_at "hx"))
  | ((with_reducible show SqT _ _ _ _); first
    | assumption
    | exact .inl (.inl (by assumption))
    | with_reducible refine' ex_t (by assumption) ?_
    | (with_reducible refine' kp_t (by assumption) ?hx ?_); (case hx => walk_at "hx"))
  | ((with_reducible show _ = some _); first
    | assumption
    | with_reducible refine' ex_lst (by assumption) ?_
    | (with_reducible refine' kp_lst (by assumption) ?hx ?_); (case hx => walk_at "hx")
    | (with_reducible refine' kp_tup (by assumption) ?hx ?_); (case hx => walk_at "hx")
    | (with_reducible refine' kp_dK (by assumption) ?hx ?_); (case hx => walk_at "hx")))
local macro_rules | `(tactic| walk_at "tr") => `(tactic| (repeat (any_goals (walk_at "tr1"))); done)
local macro_rules | `(tactic| walk_at "ix") => `(tactic| first
  | (with_reducible show rIxL _ _ _ _ _); (refine' g_ixLm ?hs ?h0 ?h1 ?hq); (case hs => walk_at "tr"); (case h0 => omega); (case h1 => (simp only [List.length_cons, List.length_nil]; omega)); (case' hq => skip)
  | (with_reducible show rIxT _ _ _ _ _); (refine' g_ixTm ?hs ?h0 ?h1 ?hq); (case hs => walk_at "tr"); (case h0 => omega); (case h1 => (simp only [List.length_cons, List.length_nil]; omega)); (case' hq => skip)
  | (with_reducible show rIxS _ _ _ _); (refine' g_ixSm ?hs ?h0 ?h1 ?hq); (case hs => decide +kernel); (case h0 => omega); (case h1 => exact Int.lt_of_lt_of_le (by assumption) (by decide +kernel)); (case' hq => skip))
local macro_rules | `(tactic| walk_at "g1") => `(tactic| first
  | (with_reducible show tVar _ _ _ _); refine g_var rfl ?_
  | with_reducible refine g_c ?_
  | (with_reducible refine g_seq ?_); (try dsimp only [List.set_cons_succ, List.set_cons_zero])
  | with_reducible refine g_op ?_
  | with_reducible refine g_un ?_
  | with_reducible refine g_I0 ?_
  | with_reducible refine g_U ?_
  | (with_reducible refine g_Eq ?hs ?_); (case hs => rfl)
  | (with_reducible refine g_Ne ?hs ?_); (case hs => rfl)
  | with_reducible refine g_test ?_
  | with_reducible refine g_B ?_
  | with_reducible refine g_ifS ?_
  | with_reducible refine g_asg ?_
  | with_reducible refine g_asgG ?_
  | with_reducible refine g_ret ?_
  | with_reducible refine g_retU ?_
  | with_reducible refine g_drop ?_
  | with_reducible refine g_next ?_
  | with_reducible refine g_name ?_
  | with_reducible refine g_and ?_
  | with_reducible refine g_or ?_
  | with_reducible refine g_not ?_
  | with_reducible refine g_andV ?_
  | with_reducible refine g_orV ?_
  | with_reducible refine g_notV ?_
  | with_reducible refine g_if ?_
  | with_reducible refine g_nil ?_
  | with_reducible refine g_cons ?_
  | with_reducible refine g_call ?_
  | with_reducible refine g_callKw ?_
  | with_reducible refine g_callS ?_
  | with_reducible refine g_cb ?_
  | with_reducible refine g_tup ?_
  | with_reducible refine g_lst ?_
  | with_reducible refine g_ipI ?_
  | with_reducible refine g_sub ?_
  | with_reducible refine g_augS ?_
  | (with_reducible show tAug _ _ _ _ _ _); refine g_aug rfl ?_
  | with_reducible refine g_M1 ?_
  | with_reducible refine g_M0 ?_
  | with_reducible refine g_yes ?_
  | with_reducible refine g_sl ?_
  | with_reducible refine g_nopart ?_
  | with_reducible refine g_part ?_
  | with_reducible refine g_lc ?_
  | with_reducible refine g_join ?_
  | (with_reducible show gTup _ _ _ (V.ref _) _ _ _); (refine' ⟨_, _, rfl, ?hs, ?hl, ?hm⟩); (case hs => walk_at "tr"); (case hl => rfl); (case' hm => skip)
  | (with_reducible show gCons _ _ _ _ _ _); (refine ⟨_, _, rfl, ?_⟩)
  | (with_reducible show gNil _ _ _ _); (refine ⟨rfl, ?_⟩)
  | (with_reducible show V.non = V.non ∧ _); (refine ⟨rfl, ?_⟩)
  | (with_reducible show rSlT _ _ _ _ _ _); (refine' g_slT ?hs ?hn ?hy ?hm); (case hs => walk_at "tr"); (case hn => first | exact fun z => absurd z.2 (Nat.ne_of_beq_eq_false rfl) | exact fun z => absurd z.1 (Nat.ne_of_beq_eq_false rfl)); (case hy => rfl); (case' hm => skip)
  | (with_reducible show rSlL _ _ _ _ _ _); (refine' g_slL ?hs ?hm); (case hs => walk_at "tr"); (case' hm => skip)
  | with_reducible refine g_js ?_
  | with_reducible refine g_js0 ?_
  | with_reducible refine g_fmt ?_
  | with_reducible refine g_for ?_
  | with_reducible refine g_iR1 ?_
  | with_reducible refine g_iL ?_
  | with_reducible refine g_iT ?_
  | with_reducible refine g_iE ?_
  | with_reducible refine g_iZ ?_
  | (with_reducible show ∃ k, V.bl _ = V.bl k ∧ _); refine ⟨_, rfl, ?_⟩
  | (with_reducible show ∃ k, V.int _ = V.int k ∧ _); refine ⟨_, rfl, ?_⟩
  | (with_reducible show (∃ a, V.str _ = V.str a) ∧ _); refine ⟨⟨_, rfl⟩, ?_⟩
  | (with_reducible show ∃ j : Int, [V.int _] = [V.int j] ∧ -(2 ^ 62) ≤ j ∧ _); (refine ⟨_, rfl, ?h0, ?h1, ?hm⟩); (case h0 => omega); (case h1 => omega); (case' hm => skip)
  | (with_reducible show ∃ i j : Int, [V.int _, V.int _] = [V.int i, V.int j] ∧ _); (refine ⟨_, _, rfl, ?_⟩)
  | (with_reducible show (∃ i : Int, [V.bl _] = [V.int i] ∧ _) ∨ _); (refine .inr ⟨_, rfl, ?_⟩)
  | (with_reducible show (∃ i : Int, [V.int _] = [V.int i] ∧ _) ∨ _); (refine .inl ⟨_, rfl, ?_⟩)
  | (with_reducible show ∃ a, V.ref _ = V.ref a ∧ (∃ xs, SqL _ _ a xs) ∧ _); (refine' ⟨_, rfl, ⟨_, ?hs⟩, ?hm⟩); (case hs => walk_at "tr"); (case' hm => skip)
  | (with_reducible show ∃ a, V.ref _ = V.ref a ∧ (∃ xs, SqT _ _ a xs) ∧ _); (refine' ⟨_, rfl, ⟨_, ?hs⟩, ?hm⟩); (case hs => walk_at "tr"); (case' hm => skip)
  | (with_reducible show ∃ a xs, [V.ref _] = [V.ref a] ∧ SqL _ _ a xs ∧ _); (refine' ⟨_, _, rfl, ?hs, ?hm⟩); (case hs => walk_at "tr"); (case' hm => skip)
  | (with_reducible show rIxL _ _ _ _ _); (refine' g_ixL ?hs ?ha ?hm); (case hs => walk_at "tr"); (case ha => rfl); (case' hm => skip)
  | (with_reducible show rIxT _ _ _ _ _); (refine' g_ixT ?hs ?ha ?hm); (case hs => walk_at "tr"); (case ha => rfl); (case' hm => skip)
  | (with_reducible show rGetL _ _ _ _ _); (refine' g_getL ?hs ?h0 ?ha ?hm); (case hs => walk_at "tr"); (case h0 => decide); (case ha => rfl); (case' hm => skip)
  | (with_reducible refine g_newL ?hz ?_); (case hz => exact small_sz (Nat.le_of_ble_eq_true rfl))
  | (with_reducible refine g_newT ?hz ?_); (case hz => exact small_sz (Nat.le_of_ble_eq_true rfl))
  | (with_reducible refine g_I ?hc ?_); (case hc => first
      | exact ⟨by omega, by omega⟩ | exact Or.inl ⟨by omega, by omega⟩ | exact Or.inr ⟨by omega, by omega⟩ | ((with_reducible show (0 : Int) < _); omega) | exact ⟨by omega, by omega, by omega⟩ | decide))
local macro_rules | `(tactic| walk_at "g") => `(tactic| repeat (walk_at "g1"))

section
variable {P : Program} {w : World} {K : PySem.W.Frag} {mg : Str → Option Value} {base : Heap}
def spLaw (K : PySem.W.Frag) : Sp := fun vs H Q _ => ∃ (a : Addr) (ns : List Int), vs = [.ref a] ∧ SqX K H a (ns.map V.int) ∧ ns.length ≤ 63 ∧ ∀ H2, Ex H H2 → Q (.bl true) H2
theorem fn_law (T : Txt K mg) (c__law_urn : Cal P w K mg base 1 "_law_urn" spUrn) (c__law_right : Cal P w K mg base 4 "_law_right" spRight) {f : Addr} {fd : FuncData} (F : Fun K "law" "law" s_law f fd) : FnOk P w K mg base CX0 5 f fd ["script"] (spLaw K) := by
  refine fn_ok F sc_law (fun vs H Q E h => ?_) (fun cdv A outer s H vs Q E hr h => ?_)
  · obtain ⟨a, ns, rfl, _⟩ := h
    rfl
  · obtain ⟨a, ns, rfl, ha, hn, k⟩ := h
    refine ⟨_, [some (.ref a), none, none], rfl, (pss_cons (ps_for PassesOwn.never rfl (pi_enum rfl T.z_enumerate (pa_cons (pe_slice sl_list (pe_op op_catX (pv 0) (pe_lst (pa_cons pe_int pa_nil))) po_none (po_some (pe_callB (call_max2 rfl) (by rfl) T.z_max (by decide +kernel) (pa_cons pe_int (pa_cons (pe_callB (call_min2 rfl) (by rfl) T.z_min (by decide +kernel) (pa_cons (pe_callB call_len_seq (by rfl) T.z_len (by decide +kernel) (pa_cons (pv 0) pa_nil)) (pa_cons pe_int pa_nil))) pa_nil))))) pa_nil)) (pg_tup rfl (pgs_cons (pg_name (i := 1) sc_law.nd rfl (Or.inl rfl)) (pgs_cons (pg_name (i := 2) sc_law.nd rfl (Or.inl rfl)) pgs_nil)))
      (pss_one (ps_if (pt_not (pt_val (pe_c c__law_right hr (by decide) rfl (pa_cons (pe_c c__law_urn hr (by decide) rfl (pa_cons (pv 2) (pa_cons (pv 1) pa_nil))) pa_nil))))
      (pss_one (ps_ret pe_bl))
      pss_nil)))
      (pss_one (ps_ret pe_bl))), ?_⟩
    try dsimp only [cxOf]
    walk_at "g"
    intro z H1 nz e1 hz
    refine g_catX (ha.ex e1) hz (by rw [List.length_map]; exact small_sz (by simp only [List.length_cons, List.length_nil]; omega)) (g_newL ?_ fun p H2 np e2 hp => ?_)
    · rw [List.length_append, List.length_map]
      exact small_sz (by simp only [List.length_cons, List.length_nil]; omega)
    walk_at "g"
    refine ⟨a, _, rfl, .inl ((ha.ex e1).ex e2).l, ?_⟩
    walk_at "g"
    intro q H3 nq e3 hq
    walk_at "g"
    have e13 : Ex H H3 := (e1.trans e2).trans e3
    generalize hcl : cutV _ _ _ = cl at hq
    have hlen : cl.length ≤ ns.length + 1 := by
      rw [← hcl]
      exact cells_len _ _ _
    have hint : ∀ i v, cl[i]? = some v → ∃ c, v = V.int c := fun i v hv => by
      rw [← hcl] at hv
      exact cells_int hv
    refine for_enum (xs := cl) (fun i σ H' => ∃ x1 x2, σ = [some (.ref a), x1, x2] ∧ Ex H3 H') ⟨_, _, rfl, Ex.refl _⟩ ?_ ?_ ?_
    · rintro i σ H' _ ⟨x1, x2, rfl, e⟩
      exact SqL.of (e _ _ hq)
    · rintro i x t σ H4 H5 hx ⟨x1, x2, rfl, e4⟩ nt e5 ht
      obtain ⟨c, rfl⟩ := hint i x hx
      have hi := (List.getElem?_eq_some_iff.mp hx).1
      walk_at "g"
      refine ⟨c, i, rfl, by omega, by omega, fun u H6 nu U6 k6 => ?_⟩
      walk_at "g"
      refine ⟨u, rfl, U6, fun H7 k7 _ => ?_⟩
      walk_at "g"
      refine iteF ?_
      walk_at "g"
      exact ⟨_, _, rfl, e4.trans (e5.trans (kp_ex (k6.trans k7) nu))⟩
    · rintro σ H4 ⟨x1, x2, rfl, e4⟩
      walk_at "g"
      exact k H4 (e13.trans e4)
end
section
theorem glue {l : PySem.W.OpenLaw} {w : World} {K : PySem.W.Frag} {h : Heap} {mg : Str → Option Value} {fa : Addr} {fd : FuncData} (T : Txt K mg) (A1 : At K mg "show_deeds" s_show_deeds ["deeds"]) (A2 : At K mg "_show_pairs" s__show_pairs ["words", "parts"]) (A3 : At K mg "show_leave" s_show_leave ["leave"]) (B3 : AtK K mg "show_leave" s_show_leave ["leave"])
    (A4 : At K mg "_law_urn" s__law_urn ["cell", "k"]) (A5 : At K mg "_law_lot" s__law_lot ["urn", "many"]) (A6 : At K mg "_law_named" s__law_named ["urn"]) (A7 : At K mg "_law_leaf" s__law_leaf ["urn"]) (A8 : At K mg "_law_line" s__law_line ["leaf"]) (A9 : At K mg "_law_right" s__law_right ["urn"])
    (F : Fun K "law" "law" s_law fa fd) (hb : ∀ (s : Shared) (v : Value), BindsTo s fd ⟨[v], []⟩ [("script", v)]) : LawAt l w K 5 63 "script" mg h fa := by
  refine ⟨fd, [], spLaw K, by simp, by simp, by simp, hb, fun H a ns hn _ _ hS => ⟨a, ns, rfl, hS, hn, fun H2 _ => ⟨rfl, by simp⟩⟩, fun base _ _ _ => ?_⟩
  have c_lot := ok_lot (P := l.prog) (w := w) (base := base) A5
  have c_named := ok_named T c_lot A6
  have c_leaf := ok_leaf T c_lot c_named A7
  have c_deeds := ok_deeds (P := l.prog) (w := w) (base := base) A1
  have c_pairs := ok_pairs (P := l.prog) (w := w) (base := base) T A2
  have f_show := fun f fd (F : Fun K "show_leave" "show_leave" s_show_leave f fd) => fn_show T c_deeds c_pairs F
  have c_line := ok_line (P := l.prog) (w := w) (base := base) T A8
  exact fn_law T (ok_urn T A4) (ok_right T c_leaf c_line (A3.of f_show) (B3.of f_show) A9) F
end

theorem all_mk {l : PySem.W.OpenLaw} {w : World} {K : PySem.W.Frag} {h : Heap} {mg : Str → Option Value} {fa : Addr} (KX : K.In h) (G : h.Ns mainGlobals mg) (hfa : mg "law" = some (.ref fa))
    {f1 f2 f3 f4 f5 f6 f7 f8 f9 f10 : Addr} {od1 an1 od2 an2 od3 an3 od4 an4 od5 an5 od6 an6 od7 an7 od8 an8 od9 an9 od10 an10 : Option Addr} {sl1 sl2 sl3 sl4 sl5 sl6 sl7 sl8 sl9 sl10 : Array (Option Value)}
    {oc1 kV1 dc1 pm1 ct1 cd1 oc2 kV2 dc2 pm2 ct2 cd2 oc3 kV3 dc3 pm3 ct3 cd3 oc4 kV4 dc4 pm4 ct4 cd4 oc5 kV5 dc5 pm5 ct5 cd5 oc6 kV6 dc6 pm6 ct6 cd6 oc7 kV7 dc7 pm7 ct7 cd7 oc8 kV8 dc8 pm8 ct8 cd8 oc9 kV9 dc9 pm9 ct9 cd9 oc10 kV10 dc10 pm10 ct10 cd10 : Value}
    (a1 : PySem.W.nsIn K mainGlobals "show_deeds" = some (some (.ref f1)))
    (l1 : K.lookup f1 = some ⟨oc1, od1, .func (PySem.W.fnOf "show_deeds" "show_deeds" (defArgs s_show_deeds) (defBody s_show_deeds) (defScope s_show_deeds) .none kV1 dc1 pm1 an1 cd1 ct1), sl1⟩)
    (c1 : PySem.W.codeIn K cd1 "show_deeds" = true)
    (k1 : PySem.W.keepIn K (.ref f1) = true)
    (a2 : PySem.W.nsIn K mainGlobals "_show_pairs" = some (some (.ref f2)))
    (l2 : K.lookup f2 = some ⟨oc2, od2, .func (PySem.W.fnOf "_show_pairs" "_show_pairs" (defArgs s__show_pairs) (defBody s__show_pairs) (defScope s__show_pairs) .none kV2 dc2 pm2 an2 cd2 ct2), sl2⟩)
    (c2 : PySem.W.codeIn K cd2 "_show_pairs" = true)
    (k2 : PySem.W.keepIn K (.ref f2) = true)
    (a3 : PySem.W.nsIn K mainGlobals "show_leave" = some (some (.ref f3)))
    (l3 : K.lookup f3 = some ⟨oc3, od3, .func (PySem.W.fnOf "show_leave" "show_leave" (defArgs s_show_leave) (defBody s_show_leave) (defScope s_show_leave) .none kV3 dc3 pm3 an3 cd3 ct3), sl3⟩)
    (c3 : PySem.W.codeIn K cd3 "show_leave" = true)
    (k3 : PySem.W.keepIn K (.ref f3) = true)
    (a4 : PySem.W.nsIn K mainGlobals "_law_urn" = some (some (.ref f4)))
    (l4 : K.lookup f4 = some ⟨oc4, od4, .func (PySem.W.fnOf "_law_urn" "_law_urn" (defArgs s__law_urn) (defBody s__law_urn) (defScope s__law_urn) .none kV4 dc4 pm4 an4 cd4 ct4), sl4⟩)
    (c4 : PySem.W.codeIn K cd4 "_law_urn" = true)
    (k4 : PySem.W.keepIn K (.ref f4) = true)
    (a5 : PySem.W.nsIn K mainGlobals "_law_lot" = some (some (.ref f5)))
    (l5 : K.lookup f5 = some ⟨oc5, od5, .func (PySem.W.fnOf "_law_lot" "_law_lot" (defArgs s__law_lot) (defBody s__law_lot) (defScope s__law_lot) .none kV5 dc5 pm5 an5 cd5 ct5), sl5⟩)
    (c5 : PySem.W.codeIn K cd5 "_law_lot" = true)
    (k5 : PySem.W.keepIn K (.ref f5) = true)
    (a6 : PySem.W.nsIn K mainGlobals "_law_named" = some (some (.ref f6)))
    (l6 : K.lookup f6 = some ⟨oc6, od6, .func (PySem.W.fnOf "_law_named" "_law_named" (defArgs s__law_named) (defBody s__law_named) (defScope s__law_named) .none kV6 dc6 pm6 an6 cd6 ct6), sl6⟩)
    (c6 : PySem.W.codeIn K cd6 "_law_named" = true)
    (k6 : PySem.W.keepIn K (.ref f6) = true)
    (a7 : PySem.W.nsIn K mainGlobals "_law_leaf" = some (some (.ref f7)))
    (l7 : K.lookup f7 = some ⟨oc7, od7, .func (PySem.W.fnOf "_law_leaf" "_law_leaf" (defArgs s__law_leaf) (defBody s__law_leaf) (defScope s__law_leaf) .none kV7 dc7 pm7 an7 cd7 ct7), sl7⟩)
    (c7 : PySem.W.codeIn K cd7 "_law_leaf" = true)
    (k7 : PySem.W.keepIn K (.ref f7) = true)
    (a8 : PySem.W.nsIn K mainGlobals "_law_line" = some (some (.ref f8)))
    (l8 : K.lookup f8 = some ⟨oc8, od8, .func (PySem.W.fnOf "_law_line" "_law_line" (defArgs s__law_line) (defBody s__law_line) (defScope s__law_line) .none kV8 dc8 pm8 an8 cd8 ct8), sl8⟩)
    (c8 : PySem.W.codeIn K cd8 "_law_line" = true)
    (k8 : PySem.W.keepIn K (.ref f8) = true)
    (a9 : PySem.W.nsIn K mainGlobals "_law_right" = some (some (.ref f9)))
    (l9 : K.lookup f9 = some ⟨oc9, od9, .func (PySem.W.fnOf "_law_right" "_law_right" (defArgs s__law_right) (defBody s__law_right) (defScope s__law_right) .none kV9 dc9 pm9 an9 cd9 ct9), sl9⟩)
    (c9 : PySem.W.codeIn K cd9 "_law_right" = true)
    (k9 : PySem.W.keepIn K (.ref f9) = true)
    (a10 : PySem.W.nsIn K mainGlobals "law" = some (some (.ref f10)))
    (l10 : K.lookup f10 = some ⟨oc10, od10, .func (PySem.W.fnOf "law" "law" (defArgs s_law) (defBody s_law) (defScope s_law) .none kV10 dc10 pm10 an10 cd10 ct10), sl10⟩)
    (c10 : PySem.W.codeIn K cd10 "law" = true)
    (k10 : PySem.W.keepIn K (.ref f10) = true)
    (z_enumerate : PySem.W.nsIn K mainGlobals "enumerate" = some none)
    (z_int : PySem.W.nsIn K mainGlobals "int" = some none)
    (z_isinstance : PySem.W.nsIn K mainGlobals "isinstance" = some none)
    (z_len : PySem.W.nsIn K mainGlobals "len" = some none)
    (z_max : PySem.W.nsIn K mainGlobals "max" = some none)
    (z_min : PySem.W.nsIn K mainGlobals "min" = some none)
    (z_range : PySem.W.nsIn K mainGlobals "range" = some none)
    (z_str : PySem.W.nsIn K mainGlobals "str" = some none)
    (z_zip : PySem.W.nsIn K mainGlobals "zip" = some none)
    {t0_LEAVE_WORDS t1_LEAVE_WORDS t2_LEAVE_WORDS t3_LEAVE_WORDS t4_LEAVE_WORDS t5_LEAVE_WORDS t6_LEAVE_WORDS t7_LEAVE_WORDS t8_LEAVE_WORDS : Tok} {p_LEAVE_WORDS : Addr} {od_LEAVE_WORDS : Option Addr} {n_LEAVE_WORDS : Nat} {sl_LEAVE_WORDS : Array (Option Value)}
    (g_LEAVE_WORDS : PySem.W.nsIn K mainGlobals "LEAVE_WORDS" = some (some (.ref p_LEAVE_WORDS)))
    (o_LEAVE_WORDS : K.lookup p_LEAVE_WORDS = some ⟨.type "tuple", od_LEAVE_WORDS, .seq #[.str "leave" t0_LEAVE_WORDS, .str "on" t1_LEAVE_WORDS, .str "to" t2_LEAVE_WORDS, .str "from" t3_LEAVE_WORDS, .str "for" t4_LEAVE_WORDS, .str "since" t5_LEAVE_WORDS, .str "until" t6_LEAVE_WORDS, .str "passes" t7_LEAVE_WORDS, .str "under" t8_LEAVE_WORDS] n_LEAVE_WORDS, sl_LEAVE_WORDS⟩)
    : LawAt l w K 5 63 "script" mg h fa := by
  have T : Txt K mg := ⟨PySem.W.mg_none_of KX G z_enumerate, PySem.W.mg_none_of KX G z_int, PySem.W.mg_none_of KX G z_isinstance, PySem.W.mg_none_of KX G z_len, PySem.W.mg_none_of KX G z_max, PySem.W.mg_none_of KX G z_min, PySem.W.mg_none_of KX G z_range, PySem.W.mg_none_of KX G z_str, PySem.W.mg_none_of KX G z_zip, ⟨_, PySem.W.mg_of KX G g_LEAVE_WORDS, fun _ => .inr ⟨_, _, _, o_LEAVE_WORDS, rfl, rfl, (show 9 ≤ sizeLine by decide), (.cons ⟨_, rfl⟩ (.cons ⟨_, rfl⟩ (.cons ⟨_, rfl⟩ (.cons ⟨_, rfl⟩ (.cons ⟨_, rfl⟩ (.cons ⟨_, rfl⟩ (.cons ⟨_, rfl⟩ (.cons ⟨_, rfl⟩ (.cons ⟨_, rfl⟩ .nil)))))))))⟩⟩⟩
  have F1 := fun_mk (st := s_show_deeds) l1 c1 k1
  have A_show_deeds : At K mg "show_deeds" s_show_deeds ["deeds"] := ⟨f1, _, F1, PySem.W.mg_of KX G a1, F1.binds (ps := ["deeds"]) fun _ _ _ _ _ _ us hl => match us, hl with | [_], _ => rfl⟩
  have F2 := fun_mk (st := s__show_pairs) l2 c2 k2
  have A__show_pairs : At K mg "_show_pairs" s__show_pairs ["words", "parts"] := ⟨f2, _, F2, PySem.W.mg_of KX G a2, F2.binds (ps := ["words", "parts"]) fun _ _ _ _ _ _ us hl => match us, hl with | [_, _], _ => rfl⟩
  have F3 := fun_mk (st := s_show_leave) l3 c3 k3
  have A_show_leave : At K mg "show_leave" s_show_leave ["leave"] := ⟨f3, _, F3, PySem.W.mg_of KX G a3, F3.binds (ps := ["leave"]) fun _ _ _ _ _ _ us hl => match us, hl with | [_], _ => rfl⟩
  have B_show_leave : AtK K mg "show_leave" s_show_leave ["leave"] := ⟨f3, _, F3, PySem.W.mg_of KX G a3, fun s ws hl => by match ws, hl with | [_], _ => exact .of_eq rfl⟩
  have F4 := fun_mk (st := s__law_urn) l4 c4 k4
  have A__law_urn : At K mg "_law_urn" s__law_urn ["cell", "k"] := ⟨f4, _, F4, PySem.W.mg_of KX G a4, F4.binds (ps := ["cell", "k"]) fun _ _ _ _ _ _ us hl => match us, hl with | [_, _], _ => rfl⟩
  have F5 := fun_mk (st := s__law_lot) l5 c5 k5
  have A__law_lot : At K mg "_law_lot" s__law_lot ["urn", "many"] := ⟨f5, _, F5, PySem.W.mg_of KX G a5, F5.binds (ps := ["urn", "many"]) fun _ _ _ _ _ _ us hl => match us, hl with | [_, _], _ => rfl⟩
  have F6 := fun_mk (st := s__law_named) l6 c6 k6
  have A__law_named : At K mg "_law_named" s__law_named ["urn"] := ⟨f6, _, F6, PySem.W.mg_of KX G a6, F6.binds (ps := ["urn"]) fun _ _ _ _ _ _ us hl => match us, hl with | [_], _ => rfl⟩
  have F7 := fun_mk (st := s__law_leaf) l7 c7 k7
  have A__law_leaf : At K mg "_law_leaf" s__law_leaf ["urn"] := ⟨f7, _, F7, PySem.W.mg_of KX G a7, F7.binds (ps := ["urn"]) fun _ _ _ _ _ _ us hl => match us, hl with | [_], _ => rfl⟩
  have F8 := fun_mk (st := s__law_line) l8 c8 k8
  have A__law_line : At K mg "_law_line" s__law_line ["leaf"] := ⟨f8, _, F8, PySem.W.mg_of KX G a8, F8.binds (ps := ["leaf"]) fun _ _ _ _ _ _ us hl => match us, hl with | [_], _ => rfl⟩
  have F9 := fun_mk (st := s__law_right) l9 c9 k9
  have A__law_right : At K mg "_law_right" s__law_right ["urn"] := ⟨f9, _, F9, PySem.W.mg_of KX G a9, F9.binds (ps := ["urn"]) fun _ _ _ _ _ _ us hl => match us, hl with | [_], _ => rfl⟩
  have F10 := fun_mk (st := s_law) l10 c10 k10
  have A_law : At K mg "law" s_law ["script"] := ⟨f10, _, F10, PySem.W.mg_of KX G a10, F10.binds (ps := ["script"]) fun _ _ _ _ _ _ us hl => match us, hl with | [_], _ => rfl⟩
  have e := hfa.symm.trans (PySem.W.mg_of KX G a10)
  cases e
  exact glue T A_show_deeds A__show_pairs A_show_leave B_show_leave A__law_urn A__law_lot A__law_named A__law_leaf A__law_line A__law_right F10 (fun s v => .of_eq rfl)
--@ARGS a1 l1 c1 k1 a2 l2 c2 k2 a3 l3 c3 k3 a4 l4 c4 k4 a5 l5 c5 k5 a6 l6 c6 k6 a7 l7 c7 k7 a8 l8 c8 k8 a9 l9 c9 k9 a10 l10 c10 k10 z_enumerate z_int z_isinstance z_len z_max z_min z_range z_str z_zip g_LEAVE_WORDS o_LEAVE_WORDS
end K07
open PySem PySem.W PyProof.Rows
set_option maxRecDepth 100000 in
set_option maxHeartbeats 0 in
theorem PySem.Challenge.cw_leavechain_k07_leaves_written_holds : PySem.Challenge.rw_leavechain_k07_leaves_written.Holds := by
  w_on; o_law; k_head; (case hw => w_witness2)
  k_fill
  refine Lk.walkX (l := PySem.Challenge.rw_leavechain_k07_leaves_written) (n := 63) (k := 5) (x := "script") rfl (by decide) rfl ⟨rfl, by decide, by decide⟩ (fun w h Y => PySem.W.kIn_of Y) ?F
  case F =>
    intro w mg mb fa s0 h Gr Y KX G hmg
    refine' K07.all_mk KX G hmg ?a1 ?l1 ?c1 ?k1 ?a2 ?l2 ?c2 ?k2 ?a3 ?l3 ?c3 ?k3 ?a4 ?l4 ?c4 ?k4 ?a5 ?l5 ?c5 ?k5 ?a6 ?l6 ?c6 ?k6 ?a7 ?l7 ?c7 ?k7 ?a8 ?l8 ?c8 ?k8 ?a9 ?l9 ?c9 ?k9 ?a10 ?l10 ?c10 ?k10 ?z_enumerate ?z_int ?z_isinstance ?z_len ?z_max ?z_min ?z_range ?z_str ?z_zip ?g_LEAVE_WORDS ?o_LEAVE_WORDS
    (case a1 => k_is); (case l1 => k_is); (case c1 => k_is); (case k1 => k_is); (case a2 => k_is); (case l2 => k_is)
    (case c2 => k_is); (case k2 => k_is); (case a3 => k_is); (case l3 => k_is); (case c3 => k_is); (case k3 => k_is)
    (case a4 => k_is); (case l4 => k_is); (case c4 => k_is); (case k4 => k_is); (case a5 => k_is); (case l5 => k_is)
    (case c5 => k_is); (case k5 => k_is); (case a6 => k_is); (case l6 => k_is); (case c6 => k_is); (case k6 => k_is)
    (case a7 => k_is); (case l7 => k_is); (case c7 => k_is); (case k7 => k_is); (case a8 => k_is); (case l8 => k_is)
    (case c8 => k_is); (case k8 => k_is); (case a9 => k_is); (case l9 => k_is); (case c9 => k_is); (case k9 => k_is)
    (case a10 => k_is); (case l10 => k_is); (case c10 => k_is); (case k10 => k_is); (case z_enumerate => k_is); (case z_int => k_is)
    (case z_isinstance => k_is); (case z_len => k_is); (case z_max => k_is); (case z_min => k_is); (case z_range => k_is); (case z_str => k_is)
    (case z_zip => k_is); (case g_LEAVE_WORDS => k_is); (case o_LEAVE_WORDS => k_is)

