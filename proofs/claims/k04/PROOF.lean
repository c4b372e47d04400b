import PyProof.Rows.All
import Wide.All
import OpenK.AllK
import Wide.FinOn
import HandS.ForMost
import HandS.Codes
import HandS.Evl
import HandS.FStr
import HandS.Wide
import HandS.Zip
import HandS.RaiseMore
import HandS.IsInst
import HandS.EndOwn
import HandS.AnyAll
import HandS.TupAny
import HandS.Deep
import HandS.Style
import HandS.Exc
import HandS.ExcOwn
import HandS.TryOnly
import HandS.WordsExc
import HandS.ExcIs
import HandS.ExcField
import HandS.ExcSuper
import HandS.ExcInit
import KE.KExcSuper
import HandS.HeadWalk
import HandS.StrMore
import HandS.Strs
import HandS.Dict
import HandS.HotCalls
import HandS.More
import HandS.ExcValue
import HandS.Star
import PyProof.ReprRoads
import PyProof.ReprBulk
import PyProof.Rows.ReprShort
import PySem.Challenge.RW_leavechain_k04_rooms_written
set_option Elab.async false
set_option linter.all false
set_option maxRecDepth 100000
set_option maxHeartbeats 4000000
namespace Lk
open PySem PySem.Spec PyProof.Rows L2 Evl

/-! ### defs as they stand behind the top -/
/-- a def that may be called by its name, with its promise -/
structure Cal (P : Program) (w : World) (K : PySem.W.Frag) (mg : Str → Option Value) (base : Heap) (k : Nat) (x : Str) (sp : Sp) : Prop where
  ex : ∃ (f : Addr) (fd : FuncData) (ps : List Str), FnOk P w K mg base CX0 k f fd ps sp ∧ mg x = some (.ref f) ∧ PySem.W.keepIn K (.ref f) = true ∧ Binds K fd ps []
/-- the def x of the text: it stands at a known place, binds its parameters by place and by all their names -/
structure At (K : PySem.W.Frag) (mg : Str → Option Value) (x : Str) (st : Stmt) (ps : List Str) : Prop where
  ex : ∃ f fd, Fun K x x st f fd ∧ mg x = some (.ref f) ∧ Binds K fd ps []
/-- .. and by keywords alone -/
structure CalK (P : Program) (w : World) (K : PySem.W.Frag) (mg : Str → Option Value) (base : Heap) (k : Nat) (x : Str) (sp : Sp) (ks : List Str) : Prop where
  ex : ∃ (f : Addr) (fd : FuncData), FnOk P w K mg base CX0 k f fd ks sp ∧ mg x = some (.ref f) ∧ PySem.W.keepIn K (.ref f) = true ∧
    ∀ (s : Shared) (ws : List Value), ws.length = ks.length → BindsTo s fd ⟨[], ks.zip ws⟩ (ks.zip ws)
section
variable {P : Program} {w : World} {K : PySem.W.Frag} {mg : Str → Option Value} {base : Heap}
theorem At.cal {x : Str} {st : Stmt} {N ps : List Str} {k : Nat} {sp : Sp} (F : At K mg x st ps) (S : FnScope N ps (defScope st)) (len : ∀ vs H Q E, sp vs H Q E → vs.length = ps.length)
    (hbody : ∀ (f : Addr) (cdv : Value) (A : Around) (outer : List Env) (s : Shared) (H : Hp) (vs : List V) (Q : VK) (E : XK), Room k (A.deeper (envOfC x (defScope st) s.heap.objs.size f cdv)) → sp vs H Q E →
      ∃ t, PSs (cxOf CX0 P w K mg base N x (defScope st) f cdv A outer s H E).nox (defBody st) t ∧ t { nx := fun _ H' => Q .non H', rt := Q } (start N vs) H) : Cal P w K mg base (k + 1) x sp := by
  obtain ⟨f, fd, F1, g, b⟩ := F.ex
  exact ⟨⟨f, fd, ps, F1.ok S len (hbody f), g, F1.kp, b⟩⟩
end
structure AtK (K : PySem.W.Frag) (mg : Str → Option Value) (x : Str) (st : Stmt) (ps : List Str) : Prop where
  ex : ∃ f fd, Fun K x x st f fd ∧ mg x = some (.ref f) ∧ ∀ (s : Shared) (ws : List Value), ws.length = ps.length → BindsTo s fd ⟨[], ps.zip ws⟩ (ps.zip ws)
section
variable {P : Program} {w : World} {K : PySem.W.Frag} {mg : Str → Option Value} {base : Heap} {x : Str} {st : Stmt} {ps : List Str} {k : Nat} {sp : Sp}
theorem fn_ok {N : List Str} {f : Addr} {fd : FuncData} (F : Fun K x x st f fd) (S : FnScope N ps (defScope st)) (len : ∀ vs H Q E, sp vs H Q E → vs.length = ps.length)
    (hbody : ∀ (cdv : Value) (A : Around) (outer : List Env) (s : Shared) (H : Hp) (vs : List V) (Q : VK) (E : XK), Room k (A.deeper (envOfC x (defScope st) s.heap.objs.size f cdv)) → sp vs H Q E →
      ∃ t σ, start N vs = σ ∧ PSs (cxOf CX0 P w K mg base N x (defScope st) f cdv A outer s H E).nox (defBody st) t ∧ t { nx := fun _ H' => Q .non H', rt := Q } σ H) : FnOk P w K mg base CX0 (k + 1) f fd ps sp :=
  F.ok S len fun cdv A outer s H vs Q E hr h => by
    obtain ⟨t, σ, e, a, b⟩ := hbody cdv A outer s H vs Q E hr h
    subst e
    exact ⟨t, a, b⟩
theorem At.of (A : At K mg x st ps) (h : ∀ f fd, Fun K x x st f fd → FnOk P w K mg base CX0 k f fd ps sp) : Cal P w K mg base k x sp := by
  obtain ⟨f, fd, F1, g, b⟩ := A.ex
  exact ⟨⟨f, fd, ps, h f fd F1, g, F1.kp, b⟩⟩
theorem AtK.of (A : AtK K mg x st ps) (h : ∀ f fd, Fun K x x st f fd → FnOk P w K mg base CX0 k f fd ps sp) : CalK P w K mg base k x sp ps := by
  obtain ⟨f, fd, F1, g, b⟩ := A.ex
  exact ⟨⟨f, fd, h f fd F1, g, F1.kp, b⟩⟩
end
section
variable {X : Cx} {k j : Nat} {x : Str} {sp : Sp} {p pos : Pos} {kws : List Keyword} {ks : List Str} {tk : TA}
theorem pe_c {e : Expr} {es : List Expr} {t : TA} (c : Cal X.prog X.w X.K X.mg X.base k x sp) (hr : Room j X.A) (hk : k ≤ j) (hg : Gl X x) (ha : PA X (e :: es) t)
    (hdb : (x == ("__debug__" : Str)) = false := by decide) (he : starEach (e :: es) X.env = (false, eval e X.env) :: starEach es X.env := by rfl) (hpl : (backTo pos (starEach es X.env)).any (·.1) = false := by rfl) :
    PE X (.Call (.Name x p) (e :: es) [] pos) (tCall sp [] E0 t) := by
  obtain ⟨f, fd, ps, F, hm, kp, b⟩ := c.ex
  exact pe_call F (hr.mono hk) hg hm kp b .nil pass0 ha hdb he hpl
def tCallKw (m : Nat) (sp : Sp) (t : TA) : TE := fun σ H Q => t σ H fun zs H2 => zs.length = m ∧ sp zs H2 Q E0
theorem pe_ck (c : CalK X.prog X.w X.K X.mg X.base k x sp ks) (hr : Room j X.A) (hk : k ≤ j) (hg : Gl X x) (hkw : PK X kws tk)
    (hall : (backToKw pos (keywordEach kws X.env)).all (·.1.isSome) = true := by rfl) (hks : (backToKw pos (keywordEach kws X.env)).filterMap (·.1) = ks := by rfl) (hdb : (x == ("__debug__" : Str)) = false := by decide)
    (hpl : ((backTo pos (starEach [] X.env)).any (·.1) || (backToKw pos (keywordEach kws X.env)).any (·.1.isNone)) = false := by rfl) :
    PE X (.Call (.Name x p) [] kws pos) (tCallKw ks.length sp tk) := by
  obtain ⟨f, fd, F, hm, kp, b⟩ := c.ex
  refine ⟨fun pins s σ H Q I h => ?_⟩
  refine wpAny_Call_Name_kw (ld_glob I hg hm ?_ hdb)
  refine PySem.W.callWith_KW0 (h₀ := X.base) I.ok.mod.kin kp hall ?_ hpl
  refine thn (hkw.run pos pins s σ H _ I h) fun ws s2 ⟨zs, H2, I2, rz, l2, q2⟩ => ⟨I2.kIn, ?_⟩
  rw [hks]
  refine wpAny_call (codeAny_mono (F.run X.A X.stack s2 H2 ⟨[], ks.zip ws⟩ ws zs Q E0 (hr.mono hk) I2.env0 (b s2 ws (rz.length.symm.trans l2)) rz q2) fun r s' hq => ?_)
  cases r with
  | error e => exact False.elim hq
  | ok fl =>
    cases fl with
    | ret u => exact I2.after hq
    | next => exact False.elim hq
    | brk => exact False.elim hq
    | cont => exact False.elim hq
end

/-! ### operators that the layer lacks -/
def CPowW (i j : Int) : Prop := 0 ≤ j ∧ (Builtin.Int.intBits i : Int) * j ≤ 2 ^ 27
section
variable {X : Cx}
theorem op_powW : OpR X (binaryOp .Pow) (rI CPowW fun i j => .int (i ^ j.toNat)) := opI fun _ _ _ _ _ _ _ hc q => pow_int hc.1 hc.2 q
theorem pow_ok {i j : Int} {a : Nat} (ha : i.natAbs < 2 ^ a) (h0 : 0 < a) (hj : 0 ≤ j) (h : (a : Int) * j ≤ 2 ^ 27) : CPowW i j := by
  refine ⟨hj, ?_⟩
  have b : Builtin.Int.intBits i ≤ i.natAbs.log2 + 1 := by
    unfold Builtin.Int.intBits
    split <;> omega
  have l := PySem.Flt.log2_lt_of h0 ha
  have e : Builtin.Int.intBits i ≤ a := by omega
  exact Int.le_trans (Int.mul_le_mul_of_nonneg_right (by omega) hj) h

/-- xs[i] op= e -/
def rGetL (K : PySem.W.Frag) : V → V → Hp → VK → Prop := fun x y H Q => ∃ p xs i v, x = .ref p ∧ y = .int i ∧ SqL K H p xs ∧ 0 ≤ i ∧ xs[i.toNat]? = some v ∧ Q v H
theorem get_list : PGet X (rGetL X.K) := by
  intro pins s σ H x y ov iv Q I rx ry h
  obtain ⟨p, xs, i, z, e1, e2, hq, h0, he, q⟩ := h
  subst e1
  subst e2
  cases rx
  obtain ⟨t, rfl⟩ := ry
  obtain ⟨its, r, pl, hz⟩ := I.list hq
  obtain ⟨w, ew, rw'⟩ := r.get he
  have hl := r.length
  have hn := line63
  have hi : i.toNat < xs.length := (List.getElem?_eq_some_iff.mp he).1
  exact wpAny_getItem_list pl.isList h0 (by omega) (by simpa using ew) ⟨z, H, I, rw', q⟩
theorem ps_augL {o i e : Expr} {to ti te : TE} {tip : TIp} {op : Operator} {tpos pos : Pos} (ho : PE X o to) (hi : PE X i ti) (he : PE X e te) (hp : PIp X op tip)
    (ha : ∀ ov iv new, augStore i ov iv new = (do holding [new, ov, iv] (setItem ov iv new); release [new, ov, iv] []; pure .next) := by intros; rfl) : PS X (.AugAssign (.Subscript o i tpos) op e pos) (tAugS to ti te (rGetL X.K) tip rSetL) :=
  ps_augS ho hi get_list he hp set_list ha
end

/-! ### readings step by step: what is wanted stays folded -/
/-- a new list, a new tuple -/
def NewL (Q : VK) (xs : List V) (H : Hp) : Prop := xs.length ≤ sizeLine ∧ ∀ p, H p = none → Q (.ref p) (upd H p (.lst xs))
def NewT (Q : VK) (xs : List V) (H : Hp) : Prop := xs.length ≤ sizeLine ∧ ∀ p, H p = none → Q (.ref p) (upd H p (.tup xs))
section
variable {K : PySem.W.Frag} {σ : L2.St} {H : Hp} {Q : VK} {x y v : V} {ta tb te : TE} {tt tu : TT} {QB : Bool → Hp → Prop} {QA : List V → Hp → Prop} {D : Ends} {t1 t2 : TS} {tr : TA}
theorem g_var {i : Nat} (h : σ[i]? = some (some v)) (q : Q v H) : tVar i σ H Q := ⟨v, h, q⟩
theorem g_c (q : Q v H) : tC v σ H Q := q
theorem g_op {r : R2} (h : ta σ H fun x H1 => tb σ H1 fun y H2 => r x y H2 Q) : tOp r ta tb σ H Q := h
theorem g_un {r : V → Hp → VK → Prop} (h : ta σ H fun x H1 => r x H1 Q) : tUn r ta σ H Q := h
theorem g_I0 {g : Int → Int → V} {i j : Int} (q : Q (g i j) H) : rI0 g (.int i) (.int j) H Q := ⟨i, j, rfl, rfl, q⟩
theorem g_I {C : Int → Int → Prop} {g : Int → Int → V} {i j : Int} (c : C i j) (q : Q (g i j) H) : rI C g (.int i) (.int j) H Q := ⟨i, j, rfl, rfl, c, q⟩
theorem g_U {g : Int → V} {i : Int} (q : Q (g i) H) : rU g (.int i) H Q := ⟨i, rfl, q⟩
theorem g_Eq (h : scal x y = true) (q : Q (.bl (decide (x = y))) H) : rEq x y H Q := ⟨h, q⟩
theorem g_Ne (h : scal x y = true) (q : Q (.bl (!decide (x = y))) H) : rNe x y H Q := ⟨h, q⟩
theorem g_test (h : te σ H fun x H' => ∃ k, x = .bl k ∧ QB k H') : tTest te σ H QB := h
theorem g_B (h : te σ H fun x H' => ∃ k, x = .bl k ∧ QB k H') : tB te σ H QB := h
theorem g_bl {b : Bool} (q : QB b H) : ∃ k, V.bl b = .bl k ∧ QB k H := ⟨b, rfl, q⟩
theorem g_and (h : tt σ H fun c H1 => if c = true then tu σ H1 QB else QB false H1) : tAnd tt tu σ H QB := h
theorem g_or (h : tt σ H fun c H1 => if c = true then QB true H1 else tu σ H1 QB) : tOr tt tu σ H QB := h
theorem g_not (h : tt σ H fun c H1 => QB (!c) H1) : tNot tt σ H QB := h
theorem g_andV (h : ta σ H fun x H1 => ∃ c, x = .bl c ∧ if c = true then tb σ H1 Q else Q (.bl false) H1) : tAndV ta tb σ H Q := h
theorem g_orV (h : ta σ H fun x H1 => ∃ c, x = .bl c ∧ if c = true then Q (.bl true) H1 else tb σ H1 Q) : tOrV ta tb σ H Q := h
theorem g_notV (h : ta σ H fun x H1 => ∃ c, x = .bl c ∧ Q (.bl (!c)) H1) : tNotV ta σ H Q := h
theorem g_blV {b : Bool} {R : Bool → Prop} (q : R b) : ∃ k, V.bl b = .bl k ∧ R k := ⟨b, rfl, q⟩
theorem g_if (h : tt σ H fun c H1 => if c = true then ta σ H1 Q else tb σ H1 Q) : tIf tt ta tb σ H Q := h
theorem g_nil (q : QA [] H) : tNil σ H QA := q
theorem g_cons (h : te σ H fun x H1 => tr σ H1 fun xs H2 => QA (x :: xs) H2) : tCons te tr σ H QA := h
theorem g_call {sp : Sp} {dvs : List V} {E : XK} (h : tr σ H fun vs H1 => sp (vs ++ dvs) H1 Q E) : tCall sp dvs E tr σ H Q := h
theorem g_cb {r : List V → Hp → VK → Prop} (h : tr σ H fun vs H1 => r vs H1 Q) : tCB r tr σ H Q := h
theorem g_tup (h : tr σ H fun xs H1 => NewT Q xs H1) : tTup tr σ H Q := h
theorem g_lst (h : tr σ H fun xs H1 => NewL Q xs H1) : tLst tr σ H Q := h
theorem g_seq (h : t1 { D with nx := t2 D } σ H) : tSeq t1 t2 D σ H := h
theorem g_asg {i : Nat} (h : te σ H fun x H1 => D.nx (σ.set i (some x)) H1) : tAsg te (gName i) D σ H := h
theorem g_asgG {g : TG} (h : te σ H fun x H1 => g x σ H1 D.nx) : tAsg te g D σ H := h
theorem g_ifS (h : tt σ H fun b H1 => if b = true then t1 D σ H1 else t2 D σ H1) : tIfS tt t1 t2 D σ H := h
theorem g_ret (h : te σ H D.rt) : tRet te D σ H := h
theorem g_drop (h : te σ H fun _ H1 => D.nx σ H1) : tDrop te D σ H := h
theorem g_next (h : D.nx σ H) : tNext D σ H := h
theorem g_aug {i : Nat} {tip : TIp} (hx : σ[i]? = some (some x)) (h : te σ H fun y H1 => tip x y H1 fun z H2 => D.nx (σ.set i (some z)) H2) : tAug i te tip D σ H := ⟨x, hx, h⟩
theorem g_ipI {f : Int → Int → Int} {i j : Int} (q : Q (.int (f i j)) H) : ipI f (.int i) (.int j) H Q := ⟨i, j, rfl, rfl, q⟩
theorem g_name {i : Nat} {R : L2.St → Hp → Prop} (q : R (σ.set i (some x)) H) : gName i x σ H R := q
theorem g_M1 {r : V → List V → Hp → VK → Prop} (h : ta σ H fun x H1 => (∃ a, x = .str a) ∧ tb σ H1 fun y H2 => r x [y] H2 Q) : tM1 r ta tb σ H Q := h
theorem g_M0 {r : V → List V → Hp → VK → Prop} (h : ta σ H fun x H1 => (∃ a, x = .str a) ∧ r x [] H1 Q) : tM0 r ta σ H Q := h
theorem g_yes (q : QB true H) : tYes σ H QB := q
theorem g_sl {r : V → Option Int → Option Int → Hp → VK → Prop} {tl th : TO} (h : te σ H fun x H1 => tl σ H1 fun l H2 => th σ H2 fun u H3 => r x l u H3 Q) : tSl r te tl th σ H Q := h
theorem g_nopart {QO : Option Int → Hp → Prop} (q : QO none H) : tNoPart σ H QO := q
theorem g_part {QO : Option Int → Hp → Prop} (h : te σ H fun x H1 => ∃ i, x = .int i ∧ QO (some i) H1) : tPart te σ H QO := h
theorem g_intV {i : Int} {R : Int → Prop} (q : R i) : ∃ k, V.int i = .int k ∧ R k := ⟨i, rfl, q⟩
end

/-! ### heaps: all is kept, or all but what stands at u -/
def Kp (u : Addr) (H H' : Hp) : Prop := ∀ a o, a ≠ u → H a = some o → H' a = some o
def IsX (u : Addr) (H : Hp) : Prop := ∃ φ, H u = some (.ext φ)
theorem Kp.refl (u : Addr) (H : Hp) : Kp u H H := fun _ _ _ h => h
theorem Kp.trans {u : Addr} {H H1 H2 : Hp} (a : Kp u H H1) (b : Kp u H1 H2) : Kp u H H2 := fun x o n h => b x o n (a x o n h)
theorem Kp.of {u : Addr} {H H1 : Hp} (a : Ex H H1) : Kp u H H1 := fun x o _ h => a x o h
theorem Kp.fresh {u p : Addr} {H H1 : Hp} (k : Kp u H H1) (hu : IsX u H) (h : H1 p = none) (hu1 : IsX u H1) : H p = none := by
  cases e : H p with
  | none => rfl
  | some o =>
    by_cases n : p = u
    · obtain ⟨φ, z⟩ := hu1
      rw [n] at h
      rw [h] at z
      cases z
    · rw [k p o n e] at h
      cases h
section
variable {K : PySem.W.Frag} {u a : Addr} {H H' : Hp} {xs : List V}
theorem kp_lst (k : Kp u H H') (x : IsX u H) (h : H a = some (.lst xs)) : H' a = some (.lst xs) := by
  obtain ⟨φ, z⟩ := x
  exact k a _ (ne_of h z (by intro e; cases e)) h
theorem kp_tup (k : Kp u H H') (x : IsX u H) (h : H a = some (.tup xs)) : H' a = some (.tup xs) := by
  obtain ⟨φ, z⟩ := x
  exact k a _ (ne_of h z (by intro e; cases e)) h
theorem kp_dK {kvs : List (Key × V)} (k : Kp u H H') (x : IsX u H) (h : H a = some (.dK kvs)) : H' a = some (.dK kvs) := by
  obtain ⟨φ, z⟩ := x
  exact k a _ (ne_of h z (by intro e; cases e)) h
theorem kp_l (k : Kp u H H') (x : IsX u H) (h : SqL K H a xs) : SqL K H' a xs := by
  obtain ⟨φ, z⟩ := x
  rcases h with (h | ⟨o, h⟩) | h
  · exact .inl (.inl (k a _ (ne_of h z (by intro e; cases e)) h))
  · exact .inl (.inr ⟨o, k a _ (ne_of h z (by intro e; cases e)) h⟩)
  · exact .inr h
theorem kp_t (k : Kp u H H') (x : IsX u H) (h : SqT K H a xs) : SqT K H' a xs := by
  obtain ⟨φ, z⟩ := x
  rcases h with (h | ⟨o, h⟩) | h
  · exact .inl (.inl (k a _ (ne_of h z (by intro e; cases e)) h))
  · exact .inl (.inr ⟨o, k a _ (ne_of h z (by intro e; cases e)) h⟩)
  · exact .inr h
end

/-! ### the urn: three ints of which only bounds are known -/
def UrnPhi (u : Addr) (p : Int → Int → Int → Prop) (h : Heap) : Prop :=
  ∃ (its : List Value) (m : Nat) (a b c : Int), Vals [V.int a, .int b, .int c] its ∧ h.get? u = some { cls := .type "list", data := .seq its.toArray m } ∧ p a b c
def UrnO (u : Addr) (p : Int → Int → Int → Prop) : HO := .ext (UrnPhi u p)
section
variable {X : Cx} {pins : List (Addr × Obj)} {σ : L2.St} {H : Hp} {s : Shared} {u : Addr} {o : HO} {p : Int → Int → Int → Prop}
theorem inv_conv (I : Inv X pins σ H s) (mu : Mut (H u)) (there : ∃ ob, s.heap.get? u = some ob) (new : ObjOk X.prog X.w (upd H u o) s.heap u o) : Inv X pins σ (upd H u o) s :=
  I.write (h' := s.heap) (t' := s.toks) mu (.inl rfl) (fun _ _ _ e => e) there new
theorem inv_open (I : Inv X pins σ H s) (h : H u = some (UrnO u p)) : ∃ a b c : Int, p a b c ∧ Inv X pins σ (upd H u (.lst [.int a, .int b, .int c])) s := by
  obtain ⟨⟨its, m, a, b, c, r, e, hp⟩, _, _⟩ := I.hok u _ h
  exact ⟨a, b, c, hp, inv_conv I (by rw [h]; trivial) ⟨_, e⟩ ⟨by show 3 ≤ sizeLine; decide, its, m, r, e⟩⟩
theorem inv_close (I : Inv X pins σ H s) {a b c : Int} (h : H u = some (.lst [.int a, .int b, .int c])) (hp : p a b c) : Inv X pins σ (upd H u (UrnO u p)) s := by
  obtain ⟨_, its, m, r, e⟩ := I.hok u _ h
  refine inv_conv I (by rw [h]; trivial) ⟨_, e⟩ ⟨⟨its, m, a, b, c, r, e, hp⟩, ⟨_, e⟩, ?_⟩
  rintro h1 h2 ⟨its, m, a, b, c, r, e, hp⟩ k
  exact ⟨its, m, a, b, c, r, k _ e, hp⟩
def tOpen (u : Addr) (p : Int → Int → Int → Prop) (t : TS) : TS := fun D σ H => H u = some (UrnO u p) ∧ ∀ a b c H1, p a b c → H1 u = some (.lst [.int a, .int b, .int c]) → Kp u H H1 → t D σ H1
theorem pss_open {sts : List Stmt} {t : TS} (u : Addr) (p : Int → Int → Int → Prop) (h : PSs X sts t) : PSs X sts (tOpen u p t) := ⟨fun pins s σ H D I q => by
  obtain ⟨hu, q⟩ := q
  obtain ⟨a, b, c, hp, I1⟩ := inv_open I hu
  exact h.run pins s σ _ D I1 (q a b c _ hp upd_same (fun x o n e => by rw [upd_ne n]; exact e))⟩
/-- return e, the urn closed again -/
def tRetU (te : TE) : TS := fun D σ H => te σ H fun v H1 => ∃ (u : Addr) (p : Int → Int → Int → Prop) (a b c : Int), H1 u = some (.lst [.int a, .int b, .int c]) ∧ p a b c ∧ ∀ H2, H2 u = some (UrnO u p) → Kp u H1 H2 → D.rt v H2
theorem ps_retU {e : Expr} {te : TE} {pos : Pos} (he : PE X e te) : PS X (.Return (some e) pos) (tRetU te) := by
  refine ⟨fun pins s σ H D I h => ?_⟩
  refine wpAny_Return_some (thn (he.run pins s σ H _ I h) fun v s1 ⟨x, H1, I1, r1, q1⟩ => ?_)
  obtain ⟨u, p, a, b, c, hu, hp, q⟩ := q1
  exact ⟨x, σ, _, inv_close I1 hu hp, r1, q _ upd_same (fun y o n e => by rw [upd_ne n]; exact e)⟩
end
section
variable {K : PySem.W.Frag} {σ : L2.St} {H : Hp} {Q : VK} {x y v : V} {ta tb te : TE} {D : Ends} {tr : TA} {p : Addr} {xs : List V}
theorem g_ixL {i : Int} (h : SqL K H p xs) (ha : atI xs i = some v) (q : Q v H) : rIxL K (.ref p) (.int i) H Q := ⟨p, xs, i, v, rfl, rfl, h, ha, q⟩
theorem g_ixT {i : Int} (h : SqT K H p xs) (ha : atI xs i = some v) (q : Q v H) : rIxT K (.ref p) (.int i) H Q := ⟨p, xs, i, v, rfl, rfl, h, ha, q⟩
theorem g_getL {i : Int} (h : SqL K H p xs) (h0 : 0 ≤ i) (ha : xs[i.toNat]? = some v) (q : Q v H) : rGetL K (.ref p) (.int i) H Q := ⟨p, xs, i, v, rfl, rfl, h, h0, ha, q⟩
theorem g_retU (h : te σ H fun v H1 => ∃ (u : Addr) (p : Int → Int → Int → Prop) (a b c : Int), H1 u = some (.lst [.int a, .int b, .int c]) ∧ p a b c ∧ ∀ H2, H2 u = some (UrnO u p) → Kp u H1 H2 → D.rt v H2) : tRetU te D σ H := h
theorem g_setL {i : Int} {j : Nat} {R : Hp → Prop} (h : H p = some (.lst xs)) (hi : ixN xs.length i = some j) (q : ∀ H2, H2 p = some (.lst (xs.set j v)) → Kp p H H2 → R H2) : rSetL (.ref p) (.int i) v H R :=
  ⟨p, xs, i, j, rfl, rfl, h, hi, q _ upd_same (fun x o n e => by rw [upd_ne n]; exact e)⟩
theorem g_sub {ti : TE} {ts : TSet} {R : L2.St → Hp → Prop} (h : ta σ H fun o H1 => ti σ H1 fun i H2 => ts o i x H2 fun H3 => R σ H3) : gSub ta ti ts x σ H R := h
theorem g_augS {ti : TE} {tget : V → V → Hp → VK → Prop} {tip : TIp} {ts : TSet} (h : ta σ H fun o H1 => ti σ H1 fun i H2 => tget o i H2 fun x H3 => te σ H3 fun y H4 => tip x y H4 fun z H5 => ts o i z H5 fun H6 => D.nx σ H6) : tAugS ta ti te tget tip ts D σ H := h
/-- a new object -/
theorem g_newL (h : xs.length ≤ sizeLine) (q : ∀ p H2, H p = none → Ex H H2 → H2 p = some (.lst xs) → Q (.ref p) H2) : NewL Q xs H := ⟨h, fun p np => q p _ np (Ex.new np) upd_same⟩
theorem g_newT (h : xs.length ≤ sizeLine) (q : ∀ p H2, H p = none → Ex H H2 → H2 p = some (.tup xs) → Q (.ref p) H2) : NewT Q xs H := ⟨h, fun p np => q p _ np (Ex.new np) upd_same⟩
theorem small_sz {n : Nat} (h : n ≤ 1000 := by decide) : n ≤ sizeLine := Nat.le_trans h (by decide)
end
/-! ### the draws of the first laws -/
theorem lot_bound {x M c : Int} (hM : 0 < M) (h2 : M ≤ 2 ^ 130) (hc : 0 ≤ c) (hc2 : c ≤ 100001) : (x % M + 15485863 * c * c).natAbs < 2 ^ 140 := by
  have a := Int.emod_nonneg x (show M ≠ 0 by omega)
  have b := Int.emod_lt_of_pos x hM
  have e : 0 ≤ c * c := Int.mul_nonneg hc hc
  have f : c * c ≤ 100001 * 100001 := Int.mul_le_mul hc2 hc2 hc (by decide)
  rw [Int.mul_assoc]
  omega

/-! ### the urn behind n draws at most -/
abbrev UP := Nat → Int → Int → Int → Prop
def UA (p : UP) (u : Addr) (n : Nat) (H : Hp) : Prop := ∃ m, m ≤ n ∧ H u = some (UrnO u (p m))
section
variable {p : UP} {u : Addr} {n m : Nat} {H H' : Hp}
theorem UA.mono (h : UA p u n H) (e : n ≤ m) : UA p u m H := let ⟨k, a, b⟩ := h; ⟨k, by omega, b⟩
theorem UA.ix (h : UA p u n H) : IsX u H := let ⟨_, _, b⟩ := h; ⟨_, b⟩
theorem UA.ex (h : UA p u n H) (e : Ex H H') : UA p u n H' := let ⟨k, a, b⟩ := h; ⟨k, a, e _ _ b⟩
theorem UA.ex' (e : Ex H H') (h : UA p u n H) : UA p u n H' := h.ex e
theorem UA.ne (h : UA p u n H) {x : Addr} (e : H x = none) : x ≠ u := let ⟨_, _, b⟩ := h; fun z => by rw [z, b] at e; cases e
theorem UA.nel (h : UA p u n H) {x : Addr} {xs : List V} (e : H x = some (.lst xs)) : x ≠ u := let ⟨_, _, b⟩ := h; ne_of e b (by intro z; cases z)
theorem UA.upd (h : UA p u n H) {x : Addr} {o : HO} (e : x ≠ u) : UA p u n (upd H x o) := let ⟨k, a, b⟩ := h; ⟨k, a, by rw [upd_ne e.symm]; exact b⟩
theorem Kp.upd {x : Addr} {o : HO} {H0 : Hp} (k : Kp u H0 H) (e : H0 x = none) : Kp u H0 (upd H x o) := fun y z n h => by
  rw [upd_ne (ne_of_none h e)]
  exact k y z n h
theorem UA.nil (h : UA p u n H) (k : Kp u H H') (h2 : UA p u m H') {x : Addr} (e : H' x = none) : H x = none := k.fresh h.ix e h2.ix
end
theorem ex_lst {H H' : Hp} {a : Addr} {o : HO} (e : Ex H H') (h : H a = some o) : H' a = some o := e _ _ h

/-! ### loops and comprehensions, step by step -/
section
variable {K : PySem.W.Frag} {σ : L2.St} {H : Hp} {Q : VK} {x y v : V} {ta tb te : TE} {tt : TT} {D : Ends} {tr : TA} {p : Addr} {xs : List V} {g : TG} {tb' : TS}
theorem g_iR1 {R : It → Hp → Prop} (h : tr σ H fun vs H1 => ∃ j : Int, vs = [.int j] ∧ -(2 ^ 62) ≤ j ∧ j < 2 ^ 62 ∧ R (Itr 0 j.toNat) H1) : iRng1 tr σ H R := h
theorem g_iL {R : It → Hp → Prop} (h : te σ H fun x H1 => ∃ a, x = .ref a ∧ (∃ xs, SqL K H1 a xs) ∧ R (Itl K a) H1) : iList K te σ H R := h
theorem g_iT {R : It → Hp → Prop} (h : te σ H fun x H1 => ∃ a, x = .ref a ∧ (∃ xs, SqT K H1 a xs) ∧ R (Itt K a) H1) : iTup K te σ H R := h
theorem g_iE {R : It → Hp → Prop} (h : tr σ H fun vs H1 => ∃ a xs, vs = [.ref a] ∧ SqL K H1 a xs ∧ R (Ite K a) H1) : iEnum K tr σ H R := h
theorem g_iZ {R : It → Hp → Prop} (h : tr σ H fun vs H1 => ∃ a b xs ys, vs = [.ref a, .ref b] ∧ ((SqL K H1 a xs ∧ SqL K H1 b ys ∧ R (Itz K a b) H1) ∨ (SqT K H1 a xs ∧ SqT K H1 b ys ∧ R (RZ.ItzT K a b) H1))) : RZ.iZipA K tr σ H R := h
/-- a loop: what its walk is, then the walk's own lemma -/
theorem g_for {wi : TI} (h : wi σ H fun J H1 => ∃ W : Nat → Nat → L2.St → Hp → Prop, (∃ m, W 0 m σ H1) ∧ ∀ i m σ H, W i m σ H →
    (J.stop i H ∧ D.nx σ H) ∨ (J.go i H ∧ ∃ N : L2.St → Hp → Prop, (∀ σ' H', N σ' H' → ∃ m', m' < m ∧ W (i + 1) m' σ' H') ∧ ∀ x H', J.yld i H x H' → g x σ H' fun σ2 H2 => tb' { D with nx := N, ct := N, bk := D.nx } σ2 H2)) : tFor wi g tb' D σ H := h
theorem g_lc {wi : TI} {vs : List Nat} (h : wi σ H fun J H1 => ∀ D, H1 D = none → ∃ W : Nat → Nat → Hp → Prop, (∃ m, W 0 m (upd H1 D (.lst []))) ∧ ∀ i m H, W i m H →
    (J.stop i H ∧ Q (.ref D) H) ∨ (J.go i H ∧ ∃ Nx : Hp → Prop, (∀ H', Nx H' → ∃ m', m' < m ∧ W (i + 1) m' H') ∧ ∀ x H', J.yld i H x H' → g x (wipe σ vs) H' fun σ2 H2 => wipe σ2 vs = wipe σ vs ∧ tt σ2 H2 fun b H3 =>
      if b = true then te σ2 H3 fun y H4 => ∃ acc, H4 D = some (.lst acc) ∧ acc.length < sizeLine ∧ Nx (upd H4 D (.lst (acc ++ [y]))) else Nx H3)) : tLc wi g tt te vs σ H Q := h
/-- enumerate(a list) -/
theorem for_enum {a : Addr} (Pv : Nat → L2.St → Hp → Prop) (h0 : Pv 0 σ H) (hl : ∀ i σ H, i ≤ xs.length → Pv i σ H → SqL K H a xs)
    (hs : ∀ i x T σ H H1, xs[i]? = some x → Pv i σ H → H T = none → Ex H H1 → H1 T = some (.tup [.int (i : Nat), x]) → g (.ref T) σ H1 fun σ2 H2 => tb' { D with nx := Pv (i + 1), ct := Pv (i + 1), bk := D.nx } σ2 H2) (hd : ∀ σ H, Pv xs.length σ H → D.nx σ H) :
    ∃ W : Nat → Nat → L2.St → Hp → Prop, (∃ m, W 0 m σ H) ∧ ∀ i m σ H, W i m σ H →
      ((Ite K a).stop i H ∧ D.nx σ H) ∨ ((Ite K a).go i H ∧ ∃ N : L2.St → Hp → Prop, (∀ σ' H', N σ' H' → ∃ m', m' < m ∧ W (i + 1) m' σ' H') ∧ ∀ x H', (Ite K a).yld i H x H' → g x σ H' fun σ2 H2 => tb' { D with nx := N, ct := N, bk := D.nx } σ2 H2) := by
  refine ⟨fun i m σ H => m = xs.length - i ∧ i ≤ xs.length ∧ Pv i σ H, ⟨xs.length, rfl, Nat.zero_le _, h0⟩, ?_⟩
  rintro i m σ H ⟨rfl, hi, q⟩
  have qx := hl i σ H hi q
  by_cases hlt : i < xs.length
  · have hx : xs[i]? = some xs[i] := List.getElem?_eq_getElem hlt
    refine .inr ⟨⟨xs, _, qx, hx⟩, Pv (i + 1), fun σ' H' q' => ⟨xs.length - (i + 1), by omega, rfl, hlt, q'⟩, fun v H' y => ?_⟩
    obtain ⟨T, x', rfl, hT, rfl, f1⟩ := y
    exact hs i x' T σ H _ (f1 xs qx) q hT (Ex.new hT) upd_same
  · have e : i = xs.length := by omega
    subst e
    exact .inl ⟨⟨xs, qx, Nat.le_refl _⟩, hd σ H q⟩
/-- [e for k in range(n)] with a word over what has been made -/
theorem lcR {lo : Int} {n j : Nat} {vs : List Nat} {H1 : Hp} {Dl : Addr} {Qd : Hp → Prop} (Pv : Nat → List V → Hp → Prop) (hn : n ≤ 100000) (hD : H1 Dl = none) (h0 : Pv 0 [] H1) (hup : ∀ i acc H o, Pv i acc H → Pv i acc (upd H Dl o))
    (hw : ∀ x, wipe ((wipe σ vs).set j (some x)) vs = wipe σ vs)
    (hs : ∀ i acc H (R : VK), i < n → acc.length = i → H Dl = some (.lst acc) → Pv i acc H → (∀ y H4, H4 Dl = some (.lst acc) → Pv (i + 1) (acc ++ [y]) H4 → R y H4) → te ((wipe σ vs).set j (some (.int (lo + i)))) H R)
    (hd : ∀ H acc, acc.length = n → H Dl = some (.lst acc) → Pv n acc H → Qd H) :
    ∃ W : Nat → Nat → Hp → Prop, (∃ m, W 0 m (upd H1 Dl (.lst []))) ∧ ∀ i m H, W i m H →
      ((Itr lo n).stop i H ∧ Qd H) ∨ ((Itr lo n).go i H ∧ ∃ Nx : Hp → Prop, (∀ H', Nx H' → ∃ m', m' < m ∧ W (i + 1) m' H') ∧ ∀ x H', (Itr lo n).yld i H x H' → gName j x (wipe σ vs) H' fun σ2 H2 => wipe σ2 vs = wipe σ vs ∧ tYes σ2 H2 fun b H3 =>
        if b = true then te σ2 H3 fun y H4 => ∃ acc, H4 Dl = some (.lst acc) ∧ acc.length < sizeLine ∧ Nx (upd H4 Dl (.lst (acc ++ [y]))) else Nx H3) := by
  refine ⟨fun i m H => m = n - i ∧ i ≤ n ∧ ∃ acc, acc.length = i ∧ H Dl = some (.lst acc) ∧ Pv i acc H, ⟨n, by simp, Nat.zero_le _, [], rfl, upd_same, hup _ _ _ _ h0⟩, ?_⟩
  rintro i m H ⟨rfl, hi, acc, ha, hD', q⟩
  by_cases hlt : i < n
  · refine .inr ⟨hlt, fun H' => ∃ acc, acc.length = i + 1 ∧ H' Dl = some (.lst acc) ∧ Pv (i + 1) acc H', fun H' q' => ⟨n - (i + 1), by omega, rfl, hlt, q'⟩, fun x H' y => ?_⟩
    obtain ⟨e1, e2⟩ := y
    subst e1 e2
    refine ⟨hw _, ?_⟩
    show te ((wipe σ vs).set j (some (.int (lo + i)))) H' _
    refine hs i acc H' _ hlt ha hD' q fun y H4 h4 q4 => ⟨acc, h4, Nat.lt_of_lt_of_le (by omega) (show 100000 ≤ sizeLine by decide), acc ++ [y], by rw [List.length_append, ha] <;> rfl, upd_same, hup _ _ _ _ q4⟩
  · have e : i = n := by omega
    subst e
    exact .inl ⟨Nat.le_refl _, hd H acc ha hD' q⟩
end

/-! ### items at a drawn place -/
theorem atI_mem {α : Type} {xs : List α} {i : Int} (h0 : 0 ≤ i) (h1 : i < xs.length) : ∃ v, atI xs i = some v ∧ v ∈ xs := by
  obtain ⟨j, rfl⟩ : ∃ j : Nat, i = (j : Int) := ⟨i.toNat, by omega⟩
  have hl : j < xs.length := by omega
  exact ⟨xs[j], atI_nat (List.getElem?_eq_getElem hl), List.getElem_mem hl⟩
section
variable {K : PySem.W.Frag} {H : Hp} {Q : VK} {p : Addr} {xs : List V} {i : Int}
theorem g_ixLm (h : SqL K H p xs) (h0 : 0 ≤ i) (h1 : i < xs.length) (q : ∀ v, v ∈ xs → Q v H) : rIxL K (.ref p) (.int i) H Q := let ⟨v, a, b⟩ := atI_mem h0 h1; ⟨p, xs, i, v, rfl, rfl, h, a, q v b⟩
theorem g_ixTm (h : SqT K H p xs) (h0 : 0 ≤ i) (h1 : i < xs.length) (q : ∀ v, v ∈ xs → Q v H) : rIxT K (.ref p) (.int i) H Q := let ⟨v, a, b⟩ := atI_mem h0 h1; ⟨p, xs, i, v, rfl, rfl, h, a, q v b⟩
theorem g_ixSm {z : Str} (hz : z.length ≤ sizeLine) (h0 : 0 ≤ i) (h1 : i < z.cps.toList.length) (q : ∀ c, c ∈ z.cps.toList → Q (.str ⟨#[c]⟩) H) : rIxS (.str z) (.int i) H Q := let ⟨c, a, b⟩ := atI_mem h0 h1; ⟨z, i, c, rfl, rfl, hz, a, q c b⟩
end
/-- each of a written list's items is so, by a look -/
theorem all_mem {P : V → Bool} {xs : List V} (h : xs.all P = true) {v : V} (m : v ∈ xs) : P v = true := List.all_eq_true.mp h v m

/-! ### names -/
def nmL (l : List Nat) : Bool := decide (1 ≤ l.length) && decide (l.length ≤ 8) && l.all fun c => decide (97 ≤ c) && decide (c ≤ 122)
def IsNm (x : Str) : Prop := nmL x.cps.toList = true
def nmV : V → Bool
  | .str x => nmL x.cps.toList
  | _ => false
theorem nmV_is {v : V} (h : nmV v = true) : ∃ x, v = .str x ∧ IsNm x := by
  cases v <;> first | exact ⟨_, rfl, h⟩ | cases h
theorem IsNm.len {x : Str} (h : IsNm x) : 1 ≤ x.length ∧ x.length ≤ 8 := by
  unfold IsNm nmL at h
  simp only [Bool.and_eq_true, decide_eq_true_eq] at h
  rw [TL.len_tl x]
  exact h.1
theorem joinL_nil : ∀ l : List (List Nat), TL.joinL [] l = l.flatten
  | [] => rfl
  | [p] => by rw [List.flatten_cons, List.flatten_nil, List.append_nil] <;> rfl
  | p :: q :: r => by
    show p ++ ([] ++ TL.joinL [] (q :: r)) = _
    rw [joinL_nil (q :: r)] <;> simp
theorem nm_join {ys : List Str} {l : List Nat} (h : ys.map TL.tl = l.map fun c => [c]) (h1 : 1 ≤ ys.length) (h8 : ys.length ≤ 8) (hc : ∀ c ∈ l, 97 ≤ c ∧ c ≤ 122) : IsNm (Txt.join Str.empty ys) := by
  have e : TL.tl (Txt.join Str.empty ys) = l := by
    have z := TL.tl_join Str.empty ys
    rw [← TL.join_eq] at z
    refine z.trans ?_
    rw [h]
    show TL.joinL [] (l.map fun c => [c]) = l
    rw [joinL_nil]
    induction l with
    | nil => rfl
    | cons c r ih => rw [List.map_cons, List.flatten_cons, show (List.map (fun c => [c]) r).flatten = r from by
        clear ih h z
        clear h1 h8 hc
        induction r with
        | nil => rfl
        | cons d q ih => rw [List.map_cons, List.flatten_cons, ih] <;> rfl] <;> rfl
  unfold IsNm
  show nmL (TL.tl (Txt.join Str.empty ys)) = true
  rw [e]
  have hl : ys.length = l.length := by
    have z := congrArg List.length h
    simpa using z
  unfold nmL
  simp only [Bool.and_eq_true, decide_eq_true_eq, List.all_eq_true]
  exact ⟨⟨by omega, by omega⟩, fun c m => ⟨(hc c m).1, (hc c m).2⟩⟩
theorem letters_ok {c : Nat} (h : c ∈ (Str.ofString "abcdefghijklmnopqrstuvwxyz").cps.toList) : 97 ≤ c ∧ c ≤ 122 := by
  have z := List.all_eq_true.mp (show (Str.ofString "abcdefghijklmnopqrstuvwxyz").cps.toList.all (fun c => decide (97 ≤ c) && decide (c ≤ 122)) = true by decide +kernel) c h
  simpa using z
theorem ones_sum : ∀ l : List Nat, ((l.map fun c => (⟨#[c]⟩ : Str)).map (·.length)).sum = l.length
  | [] => rfl
  | c :: r => by
    rw [List.map_cons, List.map_cons, List.sum_cons, ones_sum r, List.length_cons]
    show 1 + r.length = r.length + 1
    omega
theorem ones_tl (l : List Nat) : (l.map fun c => (⟨#[c]⟩ : Str)).map TL.tl = l.map fun c => [c] := by
  rw [List.map_map]
  rfl
theorem ones_V (l : List Nat) : (l.map fun c => (⟨#[c]⟩ : Str)).map V.str = l.map fun c => V.str ⟨#[c]⟩ := by
  rw [List.map_map]
  rfl

/-! ### zip -/
def ItzG (Sa Sb : Hp → List V → Prop) : It :=
  ⟨fun i H => ∃ (xs ys : List V) (x y : V), Sa H xs ∧ Sb H ys ∧ xs[i]? = some x ∧ ys[i]? = some y,
    fun i H v H' => ∃ T x y, v = .ref T ∧ H T = none ∧ H' = upd H T (.tup [x, y]) ∧ (∀ xs, Sa H xs → xs[i]? = some x) ∧ ∀ ys, Sb H ys → ys[i]? = some y,
    fun i H => ∃ xs ys : List V, Sa H xs ∧ Sb H ys ∧ (xs.length ≤ i ∨ ys.length ≤ i)⟩
/-- [e for x, y in zip(a, b)], no test -/
theorem lcZ {K : PySem.W.Frag} {Sa Sb : Hp → List V → Prop} {xs ys : List V} {j1 j2 : Nat} {te : TE} {vs : List Nat} {σ : L2.St} {H1 : Hp} {Dl : Addr} {Qd : Hp → Prop} (Pv : Nat → List V → Hp → Prop) (hl : xs.length = ys.length) (hn : xs.length ≤ 100000) (hD : H1 Dl = none)
    (h0 : Pv 0 [] H1) (hup : ∀ i acc H o, Pv i acc H → Pv i acc (upd H Dl o)) (hex : ∀ i acc H H', Ex H H' → Pv i acc H → Pv i acc H') (hq : ∀ i acc H, Pv i acc H → Sa H xs ∧ Sb H ys)
    (hw : ∀ x y, wipe (((wipe σ vs).set j1 (some x)).set j2 (some y)) vs = wipe σ vs)
    (hs : ∀ i x y acc H (R : VK), xs[i]? = some x → ys[i]? = some y → acc.length = i → H Dl = some (.lst acc) → Pv i acc H → (∀ z H4, H4 Dl = some (.lst acc) → Pv (i + 1) (acc ++ [z]) H4 → R z H4) → te (((wipe σ vs).set j1 (some x)).set j2 (some y)) H R)
    (hd : ∀ H acc, acc.length = xs.length → H Dl = some (.lst acc) → Pv xs.length acc H → Qd H) :
    ∃ W : Nat → Nat → Hp → Prop, (∃ m, W 0 m (upd H1 Dl (.lst []))) ∧ ∀ i m H, W i m H →
      ((ItzG Sa Sb).stop i H ∧ Qd H) ∨ ((ItzG Sa Sb).go i H ∧ ∃ Nx : Hp → Prop, (∀ H', Nx H' → ∃ m', m' < m ∧ W (i + 1) m' H') ∧ ∀ x H', (ItzG Sa Sb).yld i H x H' → gTup K 2 (gCons (gName j1) (gCons (gName j2) gNil)) x (wipe σ vs) H' fun σ2 H2 => wipe σ2 vs = wipe σ vs ∧ tYes σ2 H2 fun b H3 =>
        if b = true then te σ2 H3 fun y H4 => ∃ acc, H4 Dl = some (.lst acc) ∧ acc.length < sizeLine ∧ Nx (upd H4 Dl (.lst (acc ++ [y]))) else Nx H3) := by
  refine ⟨fun i m H => m = xs.length - i ∧ i ≤ xs.length ∧ ∃ acc, acc.length = i ∧ H Dl = some (.lst acc) ∧ Pv i acc H, ⟨xs.length, by simp, Nat.zero_le _, [], rfl, upd_same, hup _ _ _ _ h0⟩, ?_⟩
  rintro i m H ⟨rfl, hi, acc, ha, hD', q⟩
  obtain ⟨qa, qb⟩ := hq i acc H q
  by_cases hlt : i < xs.length
  · have hx : xs[i]? = some xs[i] := List.getElem?_eq_getElem hlt
    have hlt2 : i < ys.length := by omega
    have hy : ys[i]? = some ys[i] := List.getElem?_eq_getElem hlt2
    refine .inr ⟨⟨xs, ys, _, _, qa, qb, hx, hy⟩, fun H' => ∃ acc, acc.length = i + 1 ∧ H' Dl = some (.lst acc) ∧ Pv (i + 1) acc H', fun H' q' => ⟨xs.length - (i + 1), by omega, rfl, hlt, q'⟩, fun v H' y => ?_⟩
    obtain ⟨T, x', y', rfl, hT, rfl, f1, f2⟩ := y
    refine ⟨T, [x', y'], rfl, .inl (.inl upd_same), rfl, x', [y'], rfl, y', [], rfl, rfl, hw _ _, ?_⟩
    show te (((wipe σ vs).set j1 (some x')).set j2 (some y')) (upd H T (.tup [x', y'])) _
    refine hs i x' y' acc _ _ (f1 xs qa) (f2 ys qb) ha (Ex.new hT _ _ hD') (hex _ _ _ _ (Ex.new hT) q) fun y H4 h4 q4 => ⟨acc, h4, Nat.lt_of_lt_of_le (by omega) (show 100000 ≤ sizeLine by decide), acc ++ [y], by rw [List.length_append, ha] <;> rfl, upd_same, hup _ _ _ _ q4⟩
  · have e : i = xs.length := by omega
    subst e
    exact .inl ⟨⟨xs, ys, qa, qb, .inl (Nat.le_refl _)⟩, hd H acc ha hD' q⟩

/-! ### texts of numbers and of texts -/
def partS : V → Str
  | .str x => x
  | .int i => toString i
  | _ => Str.empty
/-- a text of at most 100 signs, or a number below 2 ^ 100 -/
def partB : V → Bool
  | .str x => decide (x.length ≤ 100)
  | .int i => decide (i.natAbs < 2 ^ 100)
  | _ => false
theorem partB_is {v : V} (h : partB v = true) : (∃ x : Str, v = .str x ∧ x.length ≤ 100) ∨ ∃ i : Int, v = .int i ∧ i.natAbs < 2 ^ 100 := by
  cases v <;> first
    | exact .inl ⟨_, rfl, of_decide_eq_true h⟩
    | exact .inr ⟨_, rfl, of_decide_eq_true h⟩
    | cases h
theorem numlen {i : Int} (h : i.natAbs < 2 ^ 100) : (Str.ofString (toString i)).length ≤ 101 := by
  have e := int_text_length_le (a := i) (k := 100) (by decide) (PySem.Flt.log2_lt_of (by decide) h)
  rw [PySem.ofString_length]
  exact e
theorem str_len_append (x y : Str) : (x ++ y).length = x.length + y.length := by
  rw [TL.len_tl, TL.len_tl, TL.len_tl, TL.tl_append, List.length_append]
/-- a word, a blank, a part -/
def pairS (w : Str) (p : V) : Str := ((Str.empty ++ w) ++ Str.ofString " ") ++ partS p
theorem partS_len {p : V} (h : partB p = true) : (partS p).length ≤ 101 := by
  rcases partB_is h with ⟨x, rfl, hx⟩ | ⟨i, rfl, hi⟩
  · exact Nat.le_succ_of_le hx
  · exact numlen hi

section
variable {X : Cx}
def tJoin (ts : List TE) : TE := fun σ H Q => tJs ts Str.empty σ H fun out H1 => Q (.str out) H1
theorem pe_joinN {v1 v2 : Expr} {rest : List Expr} {ts : List TE} {pos : Pos} (h : PJ X (v1 :: v2 :: rest) ts) : PE X (.JoinedStr (v1 :: v2 :: rest) pos) (tJoin ts) := pe_joined h
def tTru (K : PySem.W.Frag) (ta : TE) : TT := fun σ H Q => ta σ H fun x H' => ∃ k, TruV K x H' k ∧ Q k H'
theorem pt_tru {a : Expr} {ta : TE} (ha : PE X a ta) (he : ∀ whole, isTrue a X.env whole = (do let v ← whole; standAt a.pos; holding [v] (truthy v))) : PT X a (tTru X.K ta) := pt_truth ha he
end
section
variable {K : PySem.W.Frag} {σ : L2.St} {H : Hp} {Q : VK} {QS : Str → Hp → Prop} {te : TE} {t : TE} {ts : List TE} {acc : Str}
theorem g_join (h : tJs ts Str.empty σ H fun out H1 => Q (.str out) H1) : tJoin ts σ H Q := h
theorem g_js0 (h : QS acc H) : tJs [] acc σ H QS := h
theorem g_js (h : t σ H fun x H1 => ∃ y : Str, x = .str y ∧ (acc ++ y).length ≤ sizeLine ∧ tJs ts (acc ++ y) σ H1 QS) : tJs (t :: ts) acc σ H QS := h
theorem g_fmt (h : te σ H fun x H1 => (∃ y : Str, x = .str y ∧ y.length ≤ sizeLine ∧ Q (.str y) H1) ∨ ∃ i : Int, x = .int i ∧ i.natAbs.log2 < 1920 ∧ Q (.str (toString i)) H1) : tFmt te σ H Q := h
end
theorem zw_get {ws : List Str} {ps : List V} {i : Nat} {w : Str} {p : V} (h1 : ws[i]? = some w) (h2 : ps[i]? = some p) : ((List.zipWith pairS ws ps).take (i + 1)).map V.str = ((List.zipWith pairS ws ps).take i).map V.str ++ [.str (pairS w p)] := by
  have e : (List.zipWith pairS ws ps)[i]? = some (pairS w p) := by rw [List.getElem?_zipWith, h1, h2]
  rw [List.take_add_one, e, List.map_append]
  rfl
theorem pairS_len {w : Str} {p : V} (hw : w.length ≤ 100) (hp : partB p = true) : (pairS w p).length ≤ 202 := by
  have h := partS_len hp
  have e : (Str.ofString " ").length = 1 := by decide +kernel
  have e0 : Str.empty.length = 0 := by decide +kernel
  unfold pairS
  rw [str_len_append, str_len_append, str_len_append, e, e0]
  omega
theorem zw_len {ws : List Str} {ps : List V} (hw : ∀ x ∈ ws, x.length ≤ 100) (hp : ps.all partB = true) : ∀ x ∈ List.zipWith pairS ws ps, x.length ≤ 202 := by
  intro x hx
  obtain ⟨i, hi⟩ := List.getElem?_of_mem hx
  rw [List.getElem?_zipWith] at hi
  cases e1 : ws[i]? with
  | none => rw [e1] at hi; cases hi
  | some w =>
    cases e2 : ps[i]? with
    | none => rw [e1, e2] at hi; cases hi
    | some p =>
      rw [e1, e2] at hi
      cases hi
      exact pairS_len (hw w (List.mem_of_getElem? e1)) (all_mem hp (List.mem_of_getElem? e2))
theorem sum_le_of {l : List Nat} {b : Nat} (h : ∀ x ∈ l, x ≤ b) : l.sum ≤ l.length * b := by
  induction l with
  | nil => simp
  | cons a r ih =>
    have h1 := h a (List.mem_cons_self ..)
    have h2 := ih fun x m => h x (List.mem_cons_of_mem _ m)
    rw [List.sum_cons, List.length_cons, Nat.succ_mul]
    omega
theorem lens_sum {ys : List Str} {b : Nat} (h : ∀ x ∈ ys, x.length ≤ b) : (ys.map (·.length)).sum ≤ ys.length * b := by
  have e := sum_le_of (l := ys.map (·.length)) (b := b) (fun x m => by
    obtain ⟨y, hy, rfl⟩ := List.mem_map.mp m
    exact h y hy)
  rw [List.length_map] at e
  exact e
theorem sz_app {x y : Str} {a b : Nat} (hx : x.length ≤ a) (hy : y.length ≤ b) (h : a + b ≤ 1000 := by decide) : (x ++ y).length ≤ sizeLine := by
  rw [str_len_append]
  exact small_sz (by omega)
theorem len_app {x y : Str} {a b : Nat} (hx : x.length ≤ a) (hy : y.length ≤ b) : (x ++ y).length ≤ a + b := by
  rw [str_len_append]
  omega
theorem e0_len : Str.empty.length ≤ 0 := by decide +kernel
theorem e1_len : (Str.ofString " ").length ≤ 1 := by decide +kernel
theorem log_ok {i : Int} (h : i.natAbs < 2 ^ 100) : i.natAbs.log2 < 1920 := Nat.lt_of_lt_of_le (PySem.Flt.log2_lt_of (by decide) h) (by decide)

section
variable {K : PySem.W.Frag} {σ : L2.St} {H : Hp} {Q : VK} {x : V} {p : Addr} {xs ys : List V} {R : L2.St → Hp → Prop}
theorem g_isi {t : Value} {n : String} {b : Bool} (ty : TyX K H x t) (k : PySem.W.kitOne K t (.type n) = some b) (q : Q (.bl b) H) : rIsi K [x, .ty n] H Q := ⟨x, .ty n, t, .type n, b, rfl, .ty n, ty, k, q⟩
theorem g_slT {lo hi : Option Int} (h : SqT K H p xs) (hn : ¬ (HT.sIx xs.length 0 lo = 0 ∧ HT.sIx xs.length xs.length hi = xs.length)) (hy : cutV xs lo hi = ys) (q : ∀ p2 H2, H p2 = none → Ex H H2 → H2 p2 = some (.tup ys) → Q (.ref p2) H2) : rSlT K (.ref p) lo hi H Q := by
  subst hy
  exact ⟨p, xs, rfl, h, hn, fun p2 np => q p2 _ np (Ex.new np) upd_same⟩
theorem g_slL {lo hi : Option Int} (h : SqL K H p xs) (q : ∀ p2 H2, H p2 = none → Ex H H2 → H2 p2 = some (.lst (cutV xs lo hi)) → Q (.ref p2) H2) : rSlL K (.ref p) lo hi H Q := ⟨p, xs, rfl, h, fun p2 np => q p2 _ np (Ex.new np) upd_same⟩
end
theorem joinL_snoc (S x : List Nat) : ∀ {l : List (List Nat)}, l ≠ [] → TL.joinL S (l ++ [x]) = TL.joinL S l ++ (S ++ x)
  | [], h => absurd rfl h
  | [a], _ => rfl
  | a :: b :: r, _ => by
    show a ++ (S ++ TL.joinL S ((b :: r) ++ [x])) = (a ++ (S ++ TL.joinL S (b :: r))) ++ (S ++ x)
    rw [joinL_snoc S x (l := b :: r) (by simp)]
    simp
theorem join_snoc (S x : Str) {l : List Str} (h : l ≠ []) : Txt.join S (l ++ [x]) = Txt.join S l ++ (S ++ x) := by
  refine TL.ext_tl ?_
  rw [TL.tl_append, TL.tl_append, TL.join_eq, TL.join_eq, TL.tl_join, TL.tl_join, List.map_append]
  exact joinL_snoc _ _ (by simpa using h)
theorem app_assoc (x y z : Str) : (x ++ y) ++ z = x ++ (y ++ z) := TL.ext_tl (by simp only [TL.tl_append, List.append_assoc])
theorem empty_app (x : Str) : Str.empty ++ x = x := TL.ext_tl (by rw [TL.tl_append]; rfl)
/-- the law's own way to the same text -/
theorem pairS_eq (w : Str) (p : V) : pairS w p = (w ++ Str.ofString " ") ++ partS p := by
  unfold pairS
  rw [empty_app]
theorem g_callKw {σ : L2.St} {H : Hp} {Q : VK} {m : Nat} {sp : Sp} {t : TA} (h : t σ H fun zs H2 => zs.length = m ∧ sp zs H2 Q E0) : tCallKw m sp t σ H Q := h
theorem sz_add {m n a b : Nat} (hx : m ≤ a) (hy : n ≤ b) (h : a + b ≤ 100000) : m + n ≤ sizeLine := Nat.le_trans (Nat.add_le_add hx hy) (Nat.le_trans h (by decide))
theorem wipe1 {σ : L2.St} {a : Nat} (x : V) : wipe ((wipe σ [a]).set a (some x)) [a] = wipe σ [a] := by
  show ((σ.set a none).set a (some x)).set a none = σ.set a none
  rw [List.set_set, List.set_set]
theorem wipe2 {σ : L2.St} {a b : Nat} (h : a ≠ b) (x y : V) : wipe (((wipe σ [a, b]).set a (some x)).set b (some y)) [a, b] = wipe σ [a, b] := by
  show (((((σ.set b none).set a none).set a (some x)).set b (some y)).set b none).set a none = (σ.set b none).set a none
  rw [List.set_set, List.set_set, List.set_comm _ _ h.symm, List.set_set, List.set_comm _ _ h, List.set_set]
end Lk

namespace Lk
open PySem PySem.Spec PyProof.Rows L2 Evl

/-! ### tables of code objects: they may grow, what is known of them stays -/
def TabPhi (P : Addr) (h : Heap) : Prop := ∃ ps : Array Value, h.get? P = some { cls := .none, data := .fields ps } ∧ TriplesOk ps.toList
def TabO (P : Addr) : HO := .ext (TabPhi P)
/-- the script: a list whose object is known to the sign -/
def SqX (K : PySem.W.Frag) (H : Hp) (a : Addr) (xs : List V) : Prop := Rd H a (.lst xs) ∨ ∃ its : List Value, K.lookup a = some { cls := .type "list", data := .seq its.toArray } ∧ xs.length ≤ sizeLine ∧ Vals xs its
theorem SqX.l {K : PySem.W.Frag} {H : Hp} {a : Addr} {xs : List V} (h : SqX K H a xs) : SqL K H a xs := by
  rcases h with h | ⟨its, e, z, r⟩
  · exact .inl h
  · exact .inr ⟨_, its.toArray, _, e, rfl, rfl, rfl, by rw [List.size_toArray, ← r.length]; exact z, by simpa using r⟩
theorem SqX.ex {K : PySem.W.Frag} {H H' : Hp} {a : Addr} {xs : List V} (e : Ex H H') (h : SqX K H a xs) : SqX K H' a xs := by
  rcases h with h | h
  · exact .inl (ex_rd e h)
  · exact .inr h
section
variable {X : Cx} {pins : List (Addr × Obj)} {σ : L2.St} {H : Hp} {s : Shared} {a : Addr} {xs : List V}
theorem inv_sqx (I : Inv X pins σ H s) (h : SqX X.K H a xs) : xs.length ≤ sizeLine ∧ ∃ (its : List Value) (n : Nat), Vals xs its ∧ s.heap.get? a = some { cls := .type "list", data := .seq its.toArray n } := by
  rcases h with h | ⟨its, e, z, r⟩
  · obtain ⟨z, its, n, r, e⟩ := h.ok I.hok
    exact ⟨z, its, n, r, e⟩
  · exact ⟨z, its, _, r, I.kIn _ _ e⟩
/-- script + a list -/
def rCatX (K : PySem.W.Frag) : R2 := fun x y H Q => ∃ l b xs zs, x = .ref l ∧ y = .ref b ∧ SqX K H l xs ∧ H b = some (.lst zs) ∧ xs.length + zs.length ≤ sizeLine ∧ NewL Q (xs ++ zs) H
theorem op_catX : OpR X (binaryOp .Add) (rCatX X.K) := by
  intro pins s σ H x y v u Q I rx ry h
  obtain ⟨l, b, xs, zs, e1, e2, hL, hB, hz, q⟩ := h
  subst e1
  subst e2
  cases rx
  cases ry
  obtain ⟨z1, its, n, r, e⟩ := inv_sqx I hL
  obtain ⟨z2, its2, n2, r2, e2⟩ := I.hok b _ hB
  have l1 := r.length
  have l2 := r2.length
  refine PySem.P.add_list e e2 ?_ (by rw [List.size_toArray, List.size_toArray]; omega)
  have ea : its.toArray ++ its2.toArray = (its ++ its2).toArray := by simp
  rw [ea]
  exact ⟨.ref _, _, I.lnew (t' := s.toks) (r.append r2) (by rw [List.length_append]; omega), rfl, q.2 _ I.fresh⟩
end

/-! ### the law's call, from its promise -/
section
variable {P : Program} {w : World} {K : PySem.W.Frag} {mg mb : Str → Option Value}
/-- what is tracked as the law is entered: the tables, and the script where the top has not written it -/
def entryH (K : PySem.W.Frag) (ts : List Addr) (a : Addr) (o : Obj) (xs : List V) : Hp := fun b => if b ∈ ts then some (TabO b) else if b = a ∧ K.lookup a = none then some (.frz o (.lst xs)) else none
theorem entry_tab {ts : List Addr} {a : Addr} {o : Obj} {xs : List V} {b : Addr} (h : b ∈ ts) : entryH K ts a o xs b = some (TabO b) := if_pos h
theorem entry_some {ts : List Addr} {a : Addr} {o : Obj} {xs : List V} {b : Addr} {u : HO} (h : entryH K ts a o xs b = some u) : (b ∈ ts ∧ u = TabO b) ∨ (b ∉ ts ∧ b = a ∧ K.lookup a = none ∧ u = .frz o (.lst xs)) := by
  unfold entryH at h
  by_cases hb : b ∈ ts
  · rw [if_pos hb] at h
    exact .inl ⟨hb, (Option.some.inj h).symm⟩
  · rw [if_neg hb] at h
    by_cases hc : b = a ∧ K.lookup a = none
    · rw [if_pos hc] at h
      exact .inr ⟨hb, hc.1, hc.2, (Option.some.inj h).symm⟩
    · rw [if_neg hc] at h
      cases h
theorem lawX {k : Nat} {fa a : Addr} {cs : List (Addr × Addr)} {fd : FuncData} {x : Str} {sp : Sp} {s1 : Shared} {vs : List Value} {ns : List Int}
    (KX : K.In s1.heap) (hns : s1.heap.Ns mainGlobals mg) (hb : s1.heap.Ns builtinsNs mb) (hbb : ∀ x : Str, x ≠ "__name__" → mb x = bootBuiltins x) (hlim : s1.heap.NoLimit) (hg : s1.gens = #[])
    (hT : ∀ p ∈ cs, s1.heap.get? p.2 = some { cls := .none, data := .fields #[] }) (nT : ∀ p ∈ cs, K.lookup p.2 = none) (C : ∀ p ∈ cs, PySem.W.CodeHd s1.heap p.1 p.2)
    (hbm : ∃ (bm : Addr) (ob : Obj), mg "__builtins__" = some (.ref bm) ∧ bm ≠ builtinsNs ∧ s1.heap.get? bm = some ob ∧ ob.cls = .type "module" ∧ ob.dict = some builtinsNs ∧ ob.data = .plain)
    (ha : s1.heap.get? a = some { cls := .type "list", data := .seq vs.toArray }) (hi : IntsAre vs ns) (hl : ns.length ≤ sizeLine) (hr : Room k callerA)
    (F : ∀ base : Heap, K.In base → base.Ns mainGlobals mg → (∀ p ∈ cs, GxR.TabB base mg p.1 p.2) → FnOk P w K mg base CX0 k fa fd [x] sp) (hbind : ∀ (s : Shared) (u : Value), BindsTo s fd ⟨[u], []⟩ [(x, u)])
    (hsp : ∀ H : Hp, (∀ p ∈ cs, H p.2 = some (TabO p.2)) → SqX K H a (ns.map V.int) → sp [.ref a] H (fun v H' => v = .bl true ∧ ∀ p ∈ cs, H' p.2 = some (TabO p.2)) fun _ _ _ => False) :
    codeAny (model P w) callerA (.call (.ref fa) ⟨[.ref a], []⟩) (fun r s' => r = .ok (.ret (.bool true)) ∧ OldK s1.heap s'.heap ∧ s'.os = s1.os ∧ AllBare s'.gens) s1 := by
  have rv := vals_ints hi
  have lenV := hi.length
  let ts := cs.map (·.2)
  let H : Hp := entryH K ts a { cls := .type "list", data := .seq vs.toArray } (ns.map V.int)
  have inT : ∀ p ∈ cs, p.2 ∈ ts := fun p hp => List.mem_map.mpr ⟨p, hp, rfl⟩
  have isT : ∀ b : Addr, b ∈ ts → s1.heap.get? b = some { cls := .none, data := .fields #[] } ∧ K.lookup b = none := fun b hb => by
    obtain ⟨p, hp, e⟩ := List.mem_map.mp hb
    rw [← e]
    exact ⟨hT p hp, nT p hp⟩
  have aT : a ∉ ts := fun z => by
    have q := (isT a z).1
    rw [ha] at q
    have z' : Data.seq vs.toArray _ = Data.fields #[] := congrArg Obj.data (Option.some.inj q)
    cases z'
  -- what is neither a list nor an empty table is not tracked
  have free : ∀ {b : Addr} {o : Obj}, s1.heap.get? b = some o → (∀ zs n, o.data ≠ .seq zs n) → o.data ≠ .fields #[] → H b = none := fun {b o} e h1 h2 => by
    cases q : H b with
    | none => rfl
    | some u =>
      rcases entry_some q with ⟨hb, _⟩ | ⟨_, hb, _⟩
      · rw [(isT b hb).1] at e
        cases e
        exact (h2 rfl).elim
      · rw [hb, ha] at e
        cases e
        exact (h1 _ _ rfl).elim
  have freeD : ∀ {b : Addr} {o : Obj} {es : Array DictEntry} {ep : Nat}, s1.heap.get? b = some o → o.data = .dict es ep → H b = none := fun {b o es ep} e d => by
    refine free e (fun zs n z => ?_) fun z => ?_
    · rw [d] at z
      cases z
    · rw [d] at z
      cases z
  have nsK : ∀ {b : Addr} {m : Str → Option Value}, s1.heap.Ns b m → (hidT s1.heap H).Ns b m := fun {b m} ⟨o, es, ep, e, d, r⟩ => ⟨o, es, ep, hidT_get e (freeD e d), d, r⟩
  have hKb : K.In (hidT s1.heap H) := fun b o e => hidT_get (KX b o e) (by
    cases q : H b with
    | none => rfl
    | some u =>
      rcases entry_some q with ⟨hb, _⟩ | ⟨_, hb, hk, _⟩
      · rw [(isT b hb).2] at e
        cases e
      · rw [hb, hk] at e
        cases e)
  have hM : L2.Mod K mg (hidT s1.heap H) := ⟨hKb, nsK hns, ⟨mb, nsK hb, hbb⟩, let ⟨mc, h1, h2⟩ := hlim; ⟨mc, nsK h1, h2⟩⟩
  have TB : ∀ p ∈ cs, GxR.TabB (hidT s1.heap H) mg p.1 p.2 := fun p hp => by
    have hTp := hT p hp
    refine ⟨?_, ?_, fun z => ?_⟩
    · obtain ⟨o, us, file, tf, flags, tg, inF, text, tt, e1, r1, r2, r3, r⟩ := C p hp
      refine ⟨o, us, file, tf, flags, tg, inF, text, tt, hidT_get e1 (free e1 (fun zs n z => ?_) fun z => ?_), r1, r2, r3, r⟩
      · rw [r2] at z
        cases z
      · rw [r2] at z
        cases z
        simp at r3
    · obtain ⟨bm, ob, b1, b2, b3, b4, b5, b6⟩ := hbm
      refine ⟨bm, ob, b1, b2, fun q => ?_, fun q => ?_, hidT_get b3 (free b3 (fun zs n z => ?_) fun z => ?_), b4, b5, b6⟩
      · obtain ⟨o, es, ep, e, hd, _⟩ := hns
        rw [q, e] at b3
        cases b3
        rw [hd] at b6
        cases b6
      · rw [q, hTp] at b3
        cases b3
        cases b6
      · rw [b6] at z
        cases z
      · rw [b6] at z
        cases z
    · obtain ⟨o, es, ep, e, hd, _⟩ := hns
      rw [z, hTp] at e
      cases e
      cases hd
  have hok : HOk P w H s1.heap := fun b u z => by
    rcases entry_some z with ⟨hb, rfl⟩ | ⟨_, rfl, _, rfl⟩
    · have e := (isT b hb).1
      refine ⟨⟨#[], e, True.intro⟩, ⟨_, e⟩, ?_⟩
      rintro h1 h2 ⟨ps, e1, e2⟩ kp
      exact ⟨ps, kp _ e1, e2⟩
    · exact ⟨ha, by rw [List.length_map]; exact hl, vs, _, rv, ha⟩
  have hS : SqX K H a (ns.map V.int) := by
    cases hk : K.lookup a with
    | some o =>
      have e := KX a o hk
      rw [ha] at e
      cases e
      exact .inr ⟨vs, hk, by rw [List.length_map]; exact hl, rv⟩
    | none => exact .inl (.inr ⟨_, show entryH K ts a _ _ a = _ by unfold entryH; rw [if_neg aT, if_pos ⟨rfl, hk⟩]⟩)
  have e0 : Env0 P w K mg (hidT s1.heap H) callerA [] s1 H := ⟨rfl, hM, fun b o e => of_hidT e, Nat.le_of_eq (hidT_size _ _), trivial, fun b hb => absurd (show b ∈ ([] : List Addr) from hb) (by simp), hok, .of_eq hg⟩
  refine codeAny_mono ((F _ hKb (nsK hns) TB).run callerA [] s1 H ⟨[.ref a], []⟩ [.ref a] [.ref a] _ _ hr e0 (hbind s1 (.ref a)) (.cons rfl .nil) (hsp H (fun p hp => entry_tab (inT p hp)) hS)) fun r s' h => ?_
  cases r with
  | error e => exact False.elim h
  | ok fl =>
    cases fl with
    | next => exact False.elim h
    | brk => exact False.elim h
    | cont => exact False.elim h
    | ret u =>
      obtain ⟨v, H', os, bare, un, hok', r', q⟩ := h
      obtain ⟨qv, qT⟩ : v = .bl true ∧ ∀ p ∈ cs, H' p.2 = some (TabO p.2) := q
      subst qv
      obtain rfl : u = Value.bool true := r'
      have key : ∀ b o, b ∉ ts → s1.heap.get? b = some o → s'.heap.get? b = some o := fun b o nb e => by
        cases q : H b with
        | none => exact un.keep b o e q (by intro z; exact absurd (show b ∈ ([] : List Addr) from z) (by simp)) (by simp)
        | some u =>
          rcases entry_some q with ⟨z, _⟩ | ⟨_, rfl, _, rfl⟩
          · exact absurd z nb
          · obtain ⟨e1, _⟩ := hok b _ q
            obtain ⟨e2, _⟩ := hok' b _ (un.frzs b _ _ q)
            rw [e] at e1
            cases e1
            exact e2
      have grown : ∀ p ∈ cs, ∃ more : Array Value, s'.heap.get? p.2 = some { cls := .none, data := .fields more } := fun p hp => by
        obtain ⟨⟨ps, e, _⟩, _, _⟩ := hok' p.2 _ (qT p hp)
        exact ⟨ps, e⟩
      refine ⟨rfl, ⟨fun b o e => ?_, fun b o e => ?_⟩, os, bare⟩
      · by_cases hb : b ∈ ts
        · obtain ⟨p, hp, ep⟩ := List.mem_map.mp hb
          obtain ⟨more, hm⟩ := grown p hp
          have ep' : p.2 = b := ep
          rw [← ep'] at e ⊢
          rw [hT p hp] at e
          cases e
          exact .inr (.inl ⟨((C p hp).tab (hT p hp)).isCodeTable, rfl, #[], more, rfl, by rw [Array.empty_append]; exact hm⟩)
        · exact .inl (key b o hb e)
      · by_cases hb : b ∈ ts
        · obtain ⟨p, hp, ep⟩ := List.mem_map.mp hb
          obtain ⟨more, hm⟩ := grown p hp
          have ep' : p.2 = b := ep
          rw [← ep']
          exact ⟨_, hm⟩
        · exact ⟨o, key b o hb e⟩
end
/-- what is to be shown of a law's def, behind the top -/
def LawAt (l : PySem.W.OpenLaw) (w : World) (K : PySem.W.Frag) (k n : Nat) (x : Str) (mg : Str → Option Value) (h : Heap) (fa : Addr) : Prop :=
  ∃ (fd : FuncData) (cs : List (Addr × Addr)) (sp : Sp), (∀ p ∈ cs, h.get? p.2 = some { cls := .none, data := .fields #[] }) ∧ (∀ p ∈ cs, K.lookup p.2 = none) ∧ (∀ p ∈ cs, PySem.W.CodeHd h p.1 p.2) ∧ (∀ (s : Shared) (u : Value), BindsTo s fd ⟨[u], []⟩ [(x, u)]) ∧
    (∀ (H : Hp) (a : Addr) (ns : List Int), ns.length ≤ n → (∀ z ∈ ns, Builtin.Int.intBits z ≤ 1048576) → (∀ p ∈ cs, H p.2 = some (TabO p.2)) → SqX K H a (ns.map V.int) → sp [.ref a] H (fun v H' => v = .bl true ∧ ∀ p ∈ cs, H' p.2 = some (TabO p.2)) fun _ _ _ => False) ∧
    ∀ base : Heap, K.In base → base.Ns mainGlobals mg → (∀ p ∈ cs, GxR.TabB base mg p.1 p.2) → FnOk l.prog w K mg base CX0 k fa fd [x] sp
theorem walkX {l : PySem.W.OpenLaw} {n k : Nat} {q : Program} {loose : List Str} {XP : (Str → Option Value) → Heap → Prop} {YP : World → Heap → Prop} {d : DefRec} {K : Params → PySem.W.Frag} {x : Str}
    (hn : l.most = some n) (hn2 : n ≤ sizeLine) (hdf : d.params.defaults = []) (hr : Room k callerA) (hY : ∀ (w : World) (h : Heap), YP w h → (K w.params).In h)
    (F : ∀ (w : World) (mg mb : Str → Option Value) (fa : Addr) (s0 : Shared) (h : Heap), PySem.W.Ground q loose [] XP w s0 mg mb h → YP w h → (K w.params).In h → h.Ns mainGlobals mg → mg d.name = some (.ref fa) → LawAt l w (K w.params) k n x mg h fa) :
    PySem.W.WalkO q loose XP YP l.row.toRowW d [] (fun f vs => PySem.call f vs) := by
  refine Att.attach_callB hn hdf fun w s0 s1 mg mb fa o pm cd doc a vs ns G Y ho hd hcd hmg hobj hints hlen hbits hg => ?_
  have KX := hY w _ Y
  obtain ⟨fd, cs, sp, hT, nT, C, hb, hsp, hF⟩ := F w mg mb fa s0 _ G Y KX G.T.g hmg
  exact lawX KX G.T.g G.T.b G.T.builtins G.T.nolimit hg hT nT C G.T.bmain hobj hints (Nat.le_trans hlen hn2) hr hF hb (fun H hH hS => hsp H a ns hlen hbits hH hS)
theorem kp_ex {u : Addr} {H H' : Hp} (k : Kp u H H') (h : H u = none) : Ex H H' := fun a o e => k a o (ne_of_none e h) e
section
variable {K : PySem.W.Frag} {σ : L2.St} {H : Hp} {Q : VK} {a b : Addr} {xs zs : List V} {ns : List Int}
theorem g_catX (h : SqX K H a xs) (hb : H b = some (.lst zs)) (hz : xs.length + zs.length ≤ sizeLine) (q : NewL Q (xs ++ zs) H) : rCatX K (.ref a) (.ref b) H Q := ⟨a, b, xs, zs, rfl, rfl, h, hb, hz, q⟩
/-- the cells that a law takes: whole numbers, at most as many as there are, and one more -/
theorem cells_len (ns : List Int) (lo hi : Option Int) : (cutV (ns.map V.int ++ [V.int 0]) lo hi).length ≤ ns.length + 1 := by
  have h := cutV_length (ns.map V.int ++ [V.int 0]) lo hi
  rw [List.length_append, List.length_map] at h
  exact h
theorem cells_int {ns : List Int} {lo hi : Option Int} {i : Nat} {v : V} (h : (cutV (ns.map V.int ++ [V.int 0]) lo hi)[i]? = some v) : ∃ c, v = .int c := by
  have m := List.mem_of_getElem? h
  unfold cutV at m
  have m2 := List.mem_of_mem_drop (List.mem_of_mem_take m)
  rcases List.mem_append.mp m2 with z | z
  · obtain ⟨c, _, e⟩ := List.mem_map.mp z
    exact ⟨c, e.symm⟩
  · exact ⟨0, List.mem_singleton.mp z⟩
end
end Lk

namespace Lk
open PySem PySem.Spec PyProof.Rows L2 Evl

/-! ### all, any of a generator expression over a text, a tuple, a list; the tables as TabO -/
section
variable {X : Cx} {pins : List (Addr × Obj)} {σ : L2.St} {H : Hp} {s : Shared}
theorem ext_eq {φ : Heap → Prop} {o : HO} (h : some (HO.ext φ) = some o) : o = .ext φ := (Option.some.inj h).symm
/-- the table at P has grown, all else stands -/
theorem inv_tabO {P : Addr} {ps' : Array Value} {h' : Heap} {g' : Array GenState} {d' : Drawn} {t' : Nat} (I : Inv X pins σ H s) (hP : H P = some (TabO P)) (k : ∀ b o, b ≠ P → s.heap.get? b = some o → h'.get? b = some o)
    (hm : h'.get? P = some { cls := .none, data := .fields ps' }) (ht : TriplesOk ps'.toList) (hg : AllBare g') : Inv X pins σ H { s with heap := h', gens := g', drawn := d', toks := t' } := by
  have off : ∀ b, H b ≠ some (TabO P) → b ≠ P := fun b h z => h (by rw [z]; exact hP)
  have nN : ∀ b, H b = none → b ≠ P := fun b e => off b (by rw [e]; exact nofun)
  refine I.step (ch := []) (fun b hb => absurd hb (by simp)) (fun b o _ _ _ e n => k b o (nN b n) e) (fun b o _ _ _ e n => ⟨o.slots, k b o (nN b n) e⟩) (fun b o _ _ n => n) (fun b o _ e => ?_) (fun b xs e => e) (fun b o u e => e)
    (fun b qs e => ⟨#[], by simpa using e⟩) (fun m hn => ?_) (fun b u e => ?_) hg
  · by_cases hb : b = P
    · rw [hb]
      exact ⟨_, hm⟩
    · exact ⟨o, k b o hb e⟩
  · obtain ⟨ob, es, ep, ho, r⟩ := hn
    exact ⟨ob, es, ep, k _ ob (nN _ I.free) ho, r⟩
  · by_cases hb : b = P
    · rw [hb] at e
      rw [hP] at e
      obtain rfl := ext_eq e
      rw [hb]
      refine ⟨⟨ps', hm, ht⟩, ⟨_, hm⟩, ?_⟩
      rintro h1 h2 ⟨qs, e1, e2⟩ kp
      exact ⟨qs, kp _ e1, e2⟩
    · refine (I.hok b u e).stay (fun d v hd q => k d v ?_ q) (fun d q => q) fun d xs q => q
      rcases hd with z | z
      · rw [z]
        exact hb
      · exact off d (by rw [z]; exact nofun)
/-- the iterator of a walked thing, its turns -/
def Iters (X : Cx) (P : Addr) (u : Value) (s1 : Shared) (n : Nat) (Pf : Nat → Value → Prop) : Prop :=
  ∀ Q : Value → Shared → Prop, (∀ (o : Obj) (fp : List Addr) (St : Nat → Heap → Prop), (∀ A' : Around, A'.handled = none → Walks X.prog X.w A' s1.heap.objs.size fp [s1.heap.objs.size] n Pf St) → St 0 (s1.heap.push o) →
    (∀ b ∈ fp, b ≤ s1.heap.objs.size ∧ b ≠ P) → Q (.ref s1.heap.objs.size) { s1 with heap := s1.heap.push o }) → wpAny (model X.prog X.w) X.A (pyIter u) Q X.xe s1
/-- the generator's own environment -/
structure GEnv (X : Cx) (scope : Scope) (cenv : Env) : Prop where
  sc : cenv.scope = scope
  gl : cenv.globals = X.env.globals
  bi : cenv.builtins = builtinsNs
  ce : cenv.cells = cloFrom X.env.cells scope.names []
/-- the element: a test of the walked items; s1: as the generator was made -/
def EltOk (X : Cx) (scope : Scope) (x : Str) (elt : Expr) (P : Addr) (s1 : Shared) (Pf : Nat → Value → Prop) (pb : Nat → Bool) : Prop :=
  ∀ (cenv : Env) (A' : Around) (E' : Value → Shared → Prop) (i : Nat) (v : Value) (s₂ : Shared) (m₂ : Str → Option Value), GEnv X scope cenv → A'.handled = none → A'.depth ≤ X.A.depth + 1 → A'.units ≤ X.A.units + 8 → Pf i v →
    s₂.heap.Ns cenv.locals m₂ → m₂ x = some v → (∀ b o, b ≠ P → s1.heap.get? b = some o → s₂.heap.get? b = some o) → wpAny (model X.prog X.w) A' (eval elt cenv) (fun y s₃ => y = .bool (pb i) ∧ Keeps s₂ s₃) E' s₂
def ItOk (X : Cx) (scope : Scope) (x : Str) (elt : Expr) (P : Addr) (v : V) (σ : L2.St) (H1 : Hp) (n : Nat) (pb : Nat → Bool) : Prop :=
  ∀ (pins : List (Addr × Obj)) (s : Shared) (u : Value), Inv X pins σ H1 s → RelV v u → ∃ Pf, Iters X P u s n Pf ∧ EltOk X scope x elt P s Pf pb
/-- the generator, ready to be walked -/
def Rdy (X : Cx) (pins : List (Addr × Obj)) (σ : L2.St) (H1 : Hp) (n : Nat) (pb : Nat → Bool) (g : Addr) (s5 : Shared) : Prop :=
  ∃ (fp wr : List Addr) (G : Array GenState → Array GenState → Prop) (F : Nat → Value → Prop) (St : Nat → Shared → Prop),
    WalksS X.prog X.w X.A.in1 g fp wr G n F St ∧ St 0 s5 ∧ TruthOf X.prog X.w X.A.in1 F pb ∧ ∀ s', Moved wr G s5 s' → Inv X pins σ H1 s'
theorem gen_tab {c P : Addr} {elt iter : Expr} {x : Str} {px gpos : Pos} {scope : Scope} {te : TE} {k : Nat} {Q' : Value → Shared → Prop} {R : Nat → (Nat → Bool) → Hp → Prop}
    (hr : Room k X.A) (TB : GxR.TabB X.base X.mg c P) (hcode : X.env.code = .ref c) (S : GxR.GenS X.env scope x) (hi : PE X iter te) (hs : ∀ v, genFold iter X.env v = pure v) (I : Inv X pins σ H s)
    (h : te σ H fun v H1 => H1 P = some (TabO P) ∧ ∃ n pb, ItOk X scope x elt P v σ H1 n pb ∧ R n pb H1)
    (hQ : ∀ n pb H1 g s5, R n pb H1 → Rdy X pins σ H1 n pb g s5 → Q' (.ref g) s5) :
    wpAny (model X.prog X.w) X.A (eval (.GeneratorExp elt [⟨.Name x px, iter, [], 0⟩] scope gpos) X.env) Q' X.xe s := by
  refine wpAny_GeneratorExp_walksQD hr.hd S.co (closure_ok S.free) S.cell S.dot S.loc S.kind (by have := hr.dp; omega) ?_ hs
  refine thn (hi.run pins s σ H _ I h) fun xv s1 ⟨v, H1, I1, r1, q1⟩ => ?_
  obtain ⟨hP, n, pb, it, rr⟩ := q1
  obtain ⟨Pf, hit, hel⟩ := it pins s1 xv I1 r1
  refine hit _ fun o fp St W hst hfp => ?_
  obtain ⟨⟨ps, hPs, ht⟩, _, _⟩ := I1.hok P _ hP
  have hPlt : P < s1.heap.objs.size := Heap.lt_size hPs
  have hP2 : (s1.heap.push o).get? P = some { cls := .none, data := .fields ps } := Heap.get?_push_of_some _ hPs
  have cd : PySem.W.CodeHd (s1.heap.push o) c P := TB.code.keeps fun b u e => Heap.get?_push_of_some _ (I1.bk b u e)
  have lim2 : (s1.heap.push o).NoLimit := I1.nolimit.push o
  have sz2 : (s1.heap.push o).objs.size = s1.heap.objs.size + 1 := Heap.size_push ..
  have cont : ∀ (code : Value) (h3 : Heap) (tk : Nat) (ps' : Array Value), Heap.ExtBut P (s1.heap.push o) h3 → (s1.heap.push o).objs.size ≤ h3.objs.size → h3.get? P = some { cls := .none, data := .fields ps' } → TriplesOk ps'.toList →
      wpAny (model X.prog X.w) X.A (builtinsFor X.env.globals X.env.builtins) (fun bi s₄ =>
        ∃ Ia fp wr n₀ Pf St₀ pz F, Value.ref s1.heap.objs.size = .ref Ia ∧ (∀ A' : Around, A'.handled = none → Walks X.prog X.w A' Ia fp wr n₀ Pf St₀) ∧ St₀ 0 s₄.heap ∧ (∀ b ∈ fp, b < s₄.heap.objs.size) ∧ s₄.heap.NoLimit ∧ cStatics ∉ wr ∧
          (∀ href : Heap, (∀ b o, s₄.heap.get? b = some o → href.get? b = some o) →
            QuietGenD X.prog X.w (genEnv scope (cloFrom X.env.cells scope.names []) s₄.heap.objs.size code bi X.env) x [] elt (List.range s₄.heap.objs.size) wr Pf pz F href (X.A.depth + 1) (X.A.units + 8)) ∧
          (∀ a h₅ tk gs, gs.bare = true → s₄.heap.objs.size < a → h₅.objs.size = a + 1 → (∀ b o, s₄.heap.get? b = some o → h₅.get? b = some o) →
            WalksS X.prog X.w X.A.in4 a (a :: s₄.heap.objs.size :: List.range s₄.heap.objs.size) (s₄.heap.objs.size :: wr) (GenOnlyQ s₄.gens.size) (passing pz n₀ 0).length
              (fun j y => ∃ i, (passing pz n₀ 0)[j]? = some i ∧ F i y) (GenAt X.prog X.w X.A.in4 a s₄.gens.size s₄.heap.objs.size (List.range s₄.heap.objs.size) wr pz n₀ F) →
            GenAt X.prog X.w X.A.in4 a s₄.gens.size s₄.heap.objs.size (List.range s₄.heap.objs.size) wr pz n₀ F 0 { s₄ with gens := s₄.gens.push gs, toks := tk, heap := h₅ } →
            Q' (.ref a) { s₄ with gens := s₄.gens.push gs, toks := tk, heap := h₅ })) X.xe { s1 with heap := h3, toks := tk } := by
    intro code h3 tk ps' hx hsz hP3 ht3
    obtain ⟨bm, ob, e1, e2, e3, e4, e5, e6, e7, e8⟩ := TB.bm
    have hcP : cStatics ≠ P := fun e => by
      obtain ⟨_, ⟨o', es, ep, ho, hd, _⟩, _⟩ := I1.nolimit
      rw [e, hPs] at ho
      cases ho
      cases hd
    have hcl : cStatics < s1.heap.objs.size := let ⟨_, hns, _⟩ := I1.nolimit; hns.lt
    have keep3 : ∀ b u, b ≠ P → s1.heap.get? b = some u → h3.get? b = some u := fun b u hb e => hx b u hb (Heap.get?_push_of_some _ e)
    have nIt : ∀ b u, s1.heap.get? b = some u → b ≠ s1.heap.objs.size := fun b u e => Nat.ne_of_lt (Heap.lt_size e)
    refine wpAny_builtinsFor (m := X.mg) (by rw [I1.ok.glob]; exact ((I1.mod.glob.keeps I1.bk).push o).extBut hx TB.gP) e1 e2 (keep3 _ _ e4 (I1.bk _ _ e5)) e6 e7 e8 ?_
    refine ⟨s1.heap.objs.size, fp, [s1.heap.objs.size], n, Pf, St, (fun _ => true), (fun i y => y = .bool (pb i)), rfl, W, ?_, ?_, lim2.extBut hx hcP, ?_, ?_, ?_⟩
    · exact (W X.A hr.hd).frame _ _ _ hst fun b hb u e => hx b u (hfp b hb).2 e
    · exact fun b hb => Nat.lt_of_lt_of_le (Nat.lt_succ_of_le (hfp b hb).1) (show s1.heap.objs.size + 1 ≤ h3.objs.size by omega)
    · intro z
      rcases List.mem_cons.mp z with z | z
      · exact Nat.ne_of_lt hcl z
      · cases z
    · intro href hhref
      refine ⟨fun A' E' i v s₂ m₂ hA _ _ hPv hn hm hk => ?_, fun A' E' i v s₂ m₂ hA hD hU hPv hp hn hm hk => ?_⟩
      · simp only [List.forIn_nil]
        exact wpAny_pure ⟨rfl, GxR.keeps_refl _⟩
      · refine wpAny_mono (hel _ A' E' i v s₂ m₂ ⟨rfl, rfl, rfl, rfl⟩ hA hD hU hPv hn hm fun b u hb e => hk b ?_ ?_ u (hhref b u (keep3 b u hb e))) (fun y s3 r => r) fun _ _ e => e
        · exact List.mem_range.mpr (Heap.lt_size (keep3 b u hb e))
        · intro z
          rcases List.mem_cons.mp z with z | z
          · exact nIt b u e z
          · cases z
    · intro g h5 tk5 gs hgb hag hsz5 hk5 W5 hat
      simp only [GxR.passing_true, List.length_range] at W5
      refine hQ n pb H1 g _ rr ⟨_, _, _, _, _, W5.in4_1, hat, ?_, fun s' hm => ?_⟩
      · intro j y sj Qj Ej hy hQj
        obtain ⟨i, hij, rfl⟩ := hy
        obtain ⟨hj, ej⟩ := List.getElem?_eq_some_iff.mp hij
        rw [List.getElem_range] at ej
        subst ej
        exact wpAny_truthy_bool hQj
      · have nwr : ∀ b u, s1.heap.get? b = some u → b ∉ h3.objs.size :: [s1.heap.objs.size] := fun b u e hb => by
          have hl := Heap.lt_size e
          rcases List.mem_cons.mp hb with z | z
          · rw [z] at hl
            have h9 : (h3.objs.size : Nat) < s1.heap.objs.size := hl
            omega
          · rcases List.mem_cons.mp z with z | z
            · exact nIt b u e z
            · cases z
        have J := inv_tabO (h' := s'.heap) (g' := s'.gens) (d' := s'.drawn) (t' := s'.toks) I1 hP (fun b u hb e => hm.heap b u (nwr b u e) (hk5 b u (keep3 b u hb e))) (hm.heap P _ (nwr P _ hPs) (hk5 P _ hP3)) ht3
          (AllBare.movedS (I1.bare.push hgb) hm)
        rw [GxR.sh_eta s1 s' hm.os] at J
        exact J
  refine ⟨lim2, ?_⟩
  cases hf : codeAmong gpos ps.toList with
  | none =>
    refine wpAny_genexprCodeX hcode (cd.code hP2 ht) (cd.tab hP2) hf fun c' h' tk hx hge hlt hco' _ htab' _ => ?_
    obtain ⟨o1, vs, f1, tf, fl, tg, inF, tx, tt, op, _, _, _, _, _, _, _, _, _, htr, _⟩ := hco'
    exact cont _ h' tk _ hx (Nat.le_trans hge (Nat.le_of_lt hlt)) htab'.2 htr
  | some cv =>
    refine wpAny_genexprCode_hit hcode (cd.code hP2 ht) hf ?_
    exact cont cv (s1.heap.push o) s1.toks ps (Heap.ExtBut.refl _ _) (Nat.le_refl _) hP2 ht

/-- all(test for x in e), any(test for x in e) -/
def tAllG (X : Cx) (P : Addr) (scope : Scope) (x : Str) (elt : Expr) (te : TE) : TE := fun σ H Q => te σ H fun v H1 => H1 P = some (TabO P) ∧ ∃ n pb, ItOk X scope x elt P v σ H1 n pb ∧ Q (.bl ((List.range n).all pb)) H1
def tAnyG (X : Cx) (P : Addr) (scope : Scope) (x : Str) (elt : Expr) (te : TE) : TE := fun σ H Q => te σ H fun v H1 => H1 P = some (TabO P) ∧ ∃ n pb, ItOk X scope x elt P v σ H1 n pb ∧ Q (.bl ((List.range n).any pb)) H1
theorem pe_allG {c P : Addr} {elt iter : Expr} {x : Str} {px p pos gpos : Pos} {scope : Scope} {te : TE} {k : Nat} (TB : GxR.TabB X.base X.mg c P) (hr : Room k X.A) (hg : Gl X "all") (hm : X.mg "all" = none) (hcode : X.env.code = .ref c) (S : GxR.GenS X.env scope x) (hi : PE X iter te)
    (hs : ∀ v, genFold iter X.env v = pure v)
    (he : starEach [.GeneratorExp elt [⟨.Name x px, iter, [], 0⟩] scope gpos] X.env = (false, eval (.GeneratorExp elt [⟨.Name x px, iter, [], 0⟩] scope gpos) X.env) :: starEach [] X.env := by rfl) :
    PE X (.Call (.Name "all" p) [.GeneratorExp elt [⟨.Name x px, iter, [], 0⟩] scope gpos] [] pos) (tAllG X P scope x elt te) := by
  refine ⟨fun pins s σ H Q I h => ?_⟩
  refine wpAny_Call_Name_kw (ld_blt I hg hm (show bootBuiltins "all" = some (.builtin "all") by first | decide +kernel | kernel_rfl) ?_)
  refine PyProof.Rows.callWith_builtin1 ?_ he (by rfl)
  rw [he]
  show wpAny _ _ (spliced ((false, eval (.GeneratorExp elt [⟨.Name x px, iter, [], 0⟩] scope gpos) X.env) :: backTo pos (starEach [] X.env))) _ _ s
  refine Calls.spliced_cons (gen_tab (R := fun n pb H1 => Q (.bl ((List.range n).all pb)) H1) hr TB hcode S hi hs I h fun n pb H1 g s5 hR hG => ?_)
  obtain ⟨fp, wr, G, F, St, W, hst, htr, hI⟩ := hG
  refine Calls.spliced_nil ?_
  exact call_all_walkS (W.self 0 _ _ _ hst ⟨g, fp, wr, G, _, F, St, _, rfl, W, hst, htr, fun s' hmv => ⟨.bl _, H1, hI s' hmv, rfl, hR⟩⟩)
theorem pe_anyG {c P : Addr} {elt iter : Expr} {x : Str} {px p pos gpos : Pos} {scope : Scope} {te : TE} {k : Nat} (TB : GxR.TabB X.base X.mg c P) (hr : Room k X.A) (hg : Gl X "any") (hm : X.mg "any" = none) (hcode : X.env.code = .ref c) (S : GxR.GenS X.env scope x) (hi : PE X iter te)
    (hs : ∀ v, genFold iter X.env v = pure v)
    (he : starEach [.GeneratorExp elt [⟨.Name x px, iter, [], 0⟩] scope gpos] X.env = (false, eval (.GeneratorExp elt [⟨.Name x px, iter, [], 0⟩] scope gpos) X.env) :: starEach [] X.env := by rfl) :
    PE X (.Call (.Name "any" p) [.GeneratorExp elt [⟨.Name x px, iter, [], 0⟩] scope gpos] [] pos) (tAnyG X P scope x elt te) := by
  refine ⟨fun pins s σ H Q I h => ?_⟩
  refine wpAny_Call_Name_kw (ld_blt I hg hm boot_any ?_)
  refine PyProof.Rows.callWith_builtin1 ?_ he (by rfl)
  rw [he]
  show wpAny _ _ (spliced ((false, eval (.GeneratorExp elt [⟨.Name x px, iter, [], 0⟩] scope gpos) X.env) :: backTo pos (starEach [] X.env))) _ _ s
  refine Calls.spliced_cons (gen_tab (R := fun n pb H1 => Q (.bl ((List.range n).any pb)) H1) hr TB hcode S hi hs I h fun n pb H1 g s5 hR hG => ?_)
  obtain ⟨fp, wr, G, F, St, W, hst, htr, hI⟩ := hG
  refine Calls.spliced_nil ?_
  exact call_any_walkS (W.self 0 _ _ _ hst ⟨g, fp, wr, G, _, F, St, _, rfl, W, hst, htr, fun s' hmv => ⟨.bl _, H1, hI s' hmv, rfl, hR⟩⟩)
end
end Lk

namespace Lk
open PySem PySem.Spec PyProof.Rows L2 Evl
section
variable {X : Cx} {pins : List (Addr × Obj)} {σ : L2.St} {H : Hp} {s1 s : Shared} {P : Addr} {Pf : Nat → Value → Prop} {n : Nat}
theorem tab_at (I : Inv X pins σ H s1) (hP : H P = some (TabO P)) : ∃ ps : Array Value, s1.heap.get? P = some { cls := .none, data := .fields ps } := by
  obtain ⟨⟨ps, e, _⟩, _, _⟩ := I.hok P _ hP
  exact ⟨ps, e⟩
theorem tab_lt (I : Inv X pins σ H s1) (hP : H P = some (TabO P)) : P < s1.heap.objs.size := let ⟨_, e⟩ := tab_at I hP; Heap.lt_size e
theorem tab_base (I : Inv X pins σ H s1) (hP : H P = some (TabO P)) {b : Addr} {o : Obj} (e : X.base.get? b = some o) : b ≠ P := fun z => by
  have q := (I.bs b o e).2
  rw [z, hP] at q
  cases q
theorem it_str {a : Str} {t : Tok} (hP : P < s1.heap.objs.size) : Iters X P (.str a t) s1 a.cps.size (SignAt a) := fun Q h => by
  refine wpAny_pyIter_str fun o St W hst => h o _ St W hst fun b hb => ?_
  rcases List.mem_cons.mp hb with z | z
  · rw [z]
    exact ⟨Nat.le_refl _, Nat.ne_of_gt hP⟩
  · cases z
theorem it_tup {a : Addr} {its : Array Value} (hP : P < s1.heap.objs.size) (ha : s1.heap.IsTuple a its) (hne : a ≠ P) : Iters X P (.ref a) s1 its.size (fun i v => its[i]? = some v) := fun Q h => by
  have hlt : a < s1.heap.objs.size := let ⟨_, e, _⟩ := ha; Heap.lt_size e
  refine wpAny_pyIter_tuple ha (h _ _ (fun i hp => hp.IsTupleIter s1.heap.objs.size a i ∧ hp.IsTuple a its) (fun A' hA => Walks.tuple hA _ _ (Nat.ne_of_lt hlt) _) ⟨⟨_, Heap.get?_push_size _ rfl, rfl, rfl⟩, ha.push _⟩ fun b hb => ?_)
  rcases List.mem_cons.mp hb with z | z
  · rw [z]
    exact ⟨Nat.le_refl _, Nat.ne_of_gt hP⟩
  · rcases List.mem_cons.mp z with z | z
    · rw [z]
      exact ⟨Nat.le_of_lt hlt, hne⟩
    · cases z
theorem it_lst {a : Addr} {its : Array Value} (hP : P < s1.heap.objs.size) (ha : s1.heap.IsList a its) (hne : a ≠ P) : Iters X P (.ref a) s1 its.size (fun i v => its[i]? = some v) := fun Q h => by
  have hlt : a < s1.heap.objs.size := let ⟨_, e, _⟩ := ha; Heap.lt_size e
  refine wpAny_pyIter_list ha (h _ _ (fun i hp => hp.IsListIter s1.heap.objs.size a i ∧ hp.IsList a its) (fun A' hA => Walks.list hA _ _ (Nat.ne_of_lt hlt) _) ⟨⟨_, Heap.get?_push_size _ rfl, rfl, rfl⟩, ha.push _⟩ fun b hb => ?_)
  rcases List.mem_cons.mp hb with z | z
  · rw [z]
    exact ⟨Nat.le_refl _, Nat.ne_of_gt hP⟩
  · rcases List.mem_cons.mp z with z | z
    · rw [z]
      exact ⟨Nat.le_of_lt hlt, hne⟩
    · cases z
/-! ### names in the generator's own frame -/
section
variable {scope : Scope} {cenv : Env} {A' : Around} {E' : Value → Shared → Prop} {s₂ : Shared} {m₂ : Str → Option Value} {x : Str} {v u : Value} {p : Pos} {Q : Value → Shared → Prop}
theorem ge_own (GE : GEnv X scope cenv) (hk : scope.kind = .function) (hl : scope.names.lookup x = some .local) (hn : s₂.heap.Ns cenv.locals m₂) (hm : m₂ x = some v) (hd : (x == ("__debug__" : Str)) = false) (h : Q v s₂) : wpAny (model X.prog X.w) A' (eval (.Name x p) cenv) Q E' s₂ :=
  wpAny_Name (wpAny_loadName_local (by rw [GE.sc]; exact hk) (show cenv.scope.names.lookup x = some .local by rw [GE.sc]; exact hl) hn hm h) hd
theorem ge_kb (I : Inv X pins σ H s1) (hP : H P = some (TabO P)) (kp : ∀ b o, b ≠ P → s1.heap.get? b = some o → s₂.heap.get? b = some o) : ∀ b o, X.base.get? b = some o → s₂.heap.get? b = some o := fun b o e => kp b o (tab_base I hP e) (I.bk b o e)
theorem ge_blt (I : Inv X pins σ H s1) (kb : ∀ b o, X.base.get? b = some o → s₂.heap.get? b = some o) (GE : GEnv X scope cenv) (hk : scope.kind = .function) (hl : scope.names.lookup x = some .globalImplicit)
    (hm : X.mg x = none) (hv : bootBuiltins x = some u) (hn : x ≠ "__name__") (hd : (x == ("__debug__" : Str)) = false) (h : Q u s₂) : wpAny (model X.prog X.w) A' (eval (.Name x p) cenv) Q E' s₂ := by
  obtain ⟨mb, h1, h2⟩ := I.mod.blt
  exact Calls.Name_function_global (by rw [GE.sc]; exact hk) (show cenv.scope.names.lookup x = _ by rw [GE.sc]; exact hl) (Calls.loadGlobal_builtin (by rw [GE.gl, I.ok.glob]; exact I.mod.glob.keeps kb) hm (by rw [GE.bi]; exact h1.keeps kb) ((h2 x hn).trans hv) h) hd
theorem ge_glob (I : Inv X pins σ H s1) (kb : ∀ b o, X.base.get? b = some o → s₂.heap.get? b = some o) (GE : GEnv X scope cenv) (hk : scope.kind = .function) (hl : scope.names.lookup x = some .globalImplicit)
    (hm : X.mg x = some u) (hd : (x == ("__debug__" : Str)) = false) (h : Q u s₂) : wpAny (model X.prog X.w) A' (eval (.Name x p) cenv) Q E' s₂ :=
  Calls.Name_function_global (by rw [GE.sc]; exact hk) (show cenv.scope.names.lookup x = _ by rw [GE.sc]; exact hl) (Calls.loadGlobal_global (by rw [GE.gl, I.ok.glob]; exact I.mod.glob.keeps kb) hm h) hd
end
/-! ### 'a' <= sign <= 'z' -/
def btw (lo hi : Str) (c : Nat) : Bool := !decide ([c] < lo.cps.toList) && !decide (hi.cps.toList < [c])
theorem elt_btw {scope : Scope} {x : Str} {lo hi a : Str} {j1 j2 : Nat} {p1 p2 p3 p4 : Pos} (hk : scope.kind = .function) (hl : scope.names.lookup x = some .local) (hd : (x == ("__debug__" : Str)) = false) :
    EltOk X scope x (.Compare (.Constant (.str lo) j1 p1) [.LtE, .LtE] [.Name x p2, .Constant (.str hi) j2 p3] p4) P s1 (SignAt a) (GxR.trF (btw lo hi) a.cps.toList) := by
  intro cenv A' E' i v s₂ m₂ GE hA hD hU hv hn hm kp
  obtain ⟨c, u, hc, rfl⟩ := hv
  have hc2 : a.cps.toList[i]? = some c := by rw [Array.getElem?_toList]; exact hc
  rw [GxR.trF_some hc2]
  refine Compare_chain (Calls.Constant_str (chain_link (ge_own GE hk hl hn hm hd (PySem.P.le_str (wpAny_truthy_bool ?_)))))
  show if (!decide ([c] < lo.cps.toList)) = true then _ else _
  cases h : !decide ([c] < lo.cps.toList) with
  | false => exact ⟨by unfold btw; rw [h]; rfl, GxR.keeps_tok _ _⟩
  | true =>
    refine chain_last (Calls.Constant_str (PySem.P.le_str ⟨?_, ?_⟩))
    · unfold btw
      rw [h]
      rfl
    · exact ⟨_, _, rfl, fun _ _ e => e⟩
theorem ok_signs {scope : Scope} {x : Str} {lo hi a : Str} {j1 j2 : Nat} {p1 p2 p3 p4 : Pos} (hk : scope.kind = .function) (hl : scope.names.lookup x = some .local) (hP : H P = some (TabO P)) (hd : (x == ("__debug__" : Str)) = false := by decide) :
    ItOk X scope x (.Compare (.Constant (.str lo) j1 p1) [.LtE, .LtE] [.Name x p2, .Constant (.str hi) j2 p3] p4) P (.str a) σ H a.cps.size (GxR.trF (btw lo hi) a.cps.toList) := fun pins s u I r => by
  obtain ⟨t, rfl⟩ := _root_.id r
  exact ⟨_, it_str (tab_lt I hP), elt_btw hk hl hd⟩
/-! ### isinstance(x, str) of texts -/
theorem elt_isiS {scope : Scope} {x : Str} {ws : List Str} {its : List Value} {p1 p2 p3 p4 : Pos} (I : Inv X pins σ H s1) (hP : H P = some (TabO P)) (hk : scope.kind = .function) (hl : scope.names.lookup x = some .local) (hd : (x == ("__debug__" : Str)) = false)
    (g1 : scope.names.lookup ("isinstance" : Str) = some .globalImplicit) (m1 : X.mg "isinstance" = none) (g2 : scope.names.lookup ("str" : Str) = some .globalImplicit) (m2 : X.mg "str" = none) (rv : Vals (ws.map V.str) its) :
    EltOk X scope x (.Call (.Name "isinstance" p1) [.Name x p2, .Name "str" p3] [] p4) P s1 (fun i v => its.toArray[i]? = some v) (fun _ => true) := by
  intro cenv A' E' i v s₂ m₂ GE hA hD hU hv hn hm kp
  have kb := ge_kb I hP kp
  have hv2 : its[i]? = some v := by simpa using hv
  obtain ⟨y, t, rfl⟩ : ∃ (y : Str) (t : Tok), v = .str y t := by
    have hi : i < its.length := (List.getElem?_eq_some_iff.mp hv2).1
    have hl := rv.length
    have hw : i < (ws.map V.str).length := by omega
    obtain ⟨u, hu, ru⟩ := rv.get (List.getElem?_eq_getElem hw)
    rw [hv2] at hu
    cases hu
    rw [List.getElem_map] at ru
    obtain ⟨t, e⟩ := _root_.id ru
    exact ⟨_, t, e⟩
  refine wpAny_Call_Name_kw (ge_blt I kb GE hk g1 m1 (u := .builtin "isinstance") (by first | decide +kernel | kernel_rfl) (by decide) (by decide) ?_)
  refine PyProof.Rows.callWith_builtin1 ?_ (by rfl) (by rfl)
  show wpAny _ _ (spliced [(false, eval (.Name x p2) cenv), (false, eval (.Name "str" p3) cenv)]) _ _ s₂
  refine Calls.spliced_cons (ge_own GE hk hl hn hm hd (Calls.spliced_cons (ge_blt I kb GE hk g2 m2 (u := .type "str") (by first | decide +kernel | kernel_rfl) (by decide) (by decide) (Calls.spliced_nil ?_))))
  exact PySem.W.kia_one (PySem.W.kitx_str (K := X.K)) (I.ok.mod.kin.keeps kb) True.intro (kit_ty (show kitB "str" "str" = some true by decide +kernel)) (fun z => nomatch z) fun tk => ⟨rfl, GxR.keeps_tok _ _⟩
theorem tup_ne {a : Addr} {xs : List V} (I : Inv X pins σ H s1) (hP : H P = some (TabO P)) (ha : SqT X.K H a xs) : a ≠ P := fun z => by
  obtain ⟨ps, e⟩ := tab_at I hP
  obtain ⟨its, r, ⟨o, h1, h2, n, h3⟩, _⟩ := I.tuple ha
  rw [z, e] at h1
  cases h1
  cases h2
theorem ok_isiS {scope : Scope} {x : Str} {a : Addr} {ws : List Str} {p1 p2 p3 p4 : Pos} (hk : scope.kind = .function) (hl : scope.names.lookup x = some .local) (g1 : scope.names.lookup ("isinstance" : Str) = some .globalImplicit) (m1 : X.mg "isinstance" = none)
    (g2 : scope.names.lookup ("str" : Str) = some .globalImplicit) (m2 : X.mg "str" = none) (hP : H P = some (TabO P)) (ha : SqT X.K H a (ws.map V.str)) (hd : (x == ("__debug__" : Str)) = false := by decide) :
    ItOk X scope x (.Call (.Name "isinstance" p1) [.Name x p2, .Name "str" p3] [] p4) P (.ref a) σ H ws.length (fun _ => true) := fun pins s u I r => by
  obtain rfl : u = Value.ref a := r
  obtain ⟨its, rv, ⟨o, h1, h2, n, h3⟩, _⟩ := I.tuple ha
  refine ⟨_, ?_, elt_isiS I hP hk hl hd g1 m1 g2 m2 rv⟩
  have hlen : its.toArray.size = ws.length := by rw [List.size_toArray, ← rv.length, List.length_map]
  rw [← hlen]
  exact it_tup (tab_lt I hP) ⟨o, h1, h2, n, h3⟩ (tup_ne I hP ha)
end
end Lk

namespace Lk
open PySem PySem.Spec PyProof.Rows L2 Evl
/-! ### defs that hold a generator expression: their code object is named -/
structure AtC (K : PySem.W.Frag) (mg : Str → Option Value) (x : Str) (st : Stmt) (ps : List Str) (c : Addr) : Prop where
  ex : ∃ f fd, Fun K x x st f fd ∧ mg x = some (.ref f) ∧ Binds K fd ps [] ∧ fd.code = .ref c
structure AtCK (K : PySem.W.Frag) (mg : Str → Option Value) (x : Str) (st : Stmt) (ps : List Str) (c : Addr) : Prop where
  ex : ∃ f fd, Fun K x x st f fd ∧ mg x = some (.ref f) ∧ (∀ (s : Shared) (ws : List Value), ws.length = ps.length → BindsTo s fd ⟨[], ps.zip ws⟩ (ps.zip ws)) ∧ fd.code = .ref c
section
variable {P : Program} {w : World} {K : PySem.W.Frag} {mg : Str → Option Value} {base : Heap} {x : Str} {st : Stmt} {ps : List Str} {k : Nat} {sp : Sp} {c : Addr}
theorem fn_okC {N : List Str} {f : Addr} {fd : FuncData} (F : Fun K x x st f fd) (hc : fd.code = .ref c) (S : FnScope N ps (defScope st)) (len : ∀ vs H Q E, sp vs H Q E → vs.length = ps.length)
    (hbody : ∀ (A : Around) (outer : List Env) (s : Shared) (H : Hp) (vs : List V) (Q : VK) (E : XK), Room k (A.deeper (envOfC x (defScope st) s.heap.objs.size f (.ref c))) → sp vs H Q E →
      ∃ t σ, start N vs = σ ∧ PSs (cxOf CX0 P w K mg base N x (defScope st) f (.ref c) A outer s H E).nox (defBody st) t ∧ t { nx := fun _ H' => Q .non H', rt := Q } σ H) : FnOk P w K mg base CX0 (k + 1) f fd ps sp := by
  obtain ⟨oc, od, kV, doc, pm, an, cdv, ct, osl, rfl, lk, hcd⟩ := F.ex
  obtain rfl : cdv = Value.ref c := hc
  refine fn_of lk hcd S len fun A outer s H vs Q E hr hsp => ?_
  obtain ⟨t, σ, e, h, q⟩ := hbody A outer s H vs Q E hr hsp
  subst e
  exact ⟨t, h.nox, q⟩
theorem AtC.of (A : AtC K mg x st ps c) (h : ∀ f fd, Fun K x x st f fd → fd.code = .ref c → FnOk P w K mg base CX0 k f fd ps sp) : Cal P w K mg base k x sp := by
  obtain ⟨f, fd, F1, g, b, e⟩ := A.ex
  exact ⟨⟨f, fd, ps, h f fd F1 e, g, F1.kp, b⟩⟩
theorem AtCK.of (A : AtCK K mg x st ps c) (h : ∀ f fd, Fun K x x st f fd → fd.code = .ref c → FnOk P w K mg base CX0 k f fd ps sp) : CalK P w K mg base k x sp ps := by
  obtain ⟨f, fd, F1, g, b, e⟩ := A.ex
  exact ⟨⟨f, fd, h f fd F1 e, g, F1.kp, b⟩⟩
end
/-- a look at a generator expression's scope: no name of its own in a cell, none captured -/
def gsB (sc : Scope) (x : Str) : Bool := sc.kind == .function && (!sc.isCoroutine && (sc.names.all (fun y => y.2 != .cell && y.2 != .free) && (sc.names.lookup (".0" : Str) == some NameKind.local && sc.names.lookup x == some NameKind.local)))
theorem genS0 {env : Env} {sc : Scope} {x : Str} (h : gsB sc x = true) : GxR.GenS env sc x := by
  unfold gsB at h
  simp only [Bool.and_eq_true, beq_iff_eq, Bool.not_eq_true', List.all_eq_true, bne_iff_ne, ne_eq] at h
  obtain ⟨h1, h2, h3, h4, h5⟩ := h
  exact ⟨h1, h2, fun y hy => (h3 y hy).1, h4, h5, fun y hy e => absurd e (h3 y hy).2⟩
/-- .. with captured names: they are in the def's cells -/
def gsF (sc : Scope) (x : Str) (fr : List Str) : Bool := sc.kind == .function && (!sc.isCoroutine && (sc.names.all (fun y => y.2 != .cell && (y.2 != .free || fr.contains y.1)) && (sc.names.lookup (".0" : Str) == some NameKind.local && sc.names.lookup x == some NameKind.local)))
theorem genSF {env : Env} {sc : Scope} {x : Str} {fr : List Str} (h : gsF sc x fr = true) (hf : ∀ y ∈ fr, ∃ c, env.cells.lookup y = some c) : GxR.GenS env sc x := by
  unfold gsF at h
  simp only [Bool.and_eq_true, Bool.or_eq_true, beq_iff_eq, Bool.not_eq_true', List.all_eq_true, bne_iff_ne, ne_eq, List.contains_iff_mem] at h
  obtain ⟨h1, h2, h3, h4, h5⟩ := h
  exact ⟨h1, h2, fun y hy => (h3 y hy).1, h4, h5, fun y hy e => hf y.1 ((h3 y hy).2.resolve_left fun z => z e)⟩
/-! ### the tables, as the top leaves them -/
def Tabs (q : Program) (K : PySem.W.Frag) (mg : Str → Option Value) (h : Heap) : Prop := ∀ (name : Str) (f c P : Addr) (oc e : Value) (od dd : Option Addr) (fd : FuncData) (vs : Array Value) (sl sl' : Array (Option Value)), ((recsOf q).any fun d => d.name == name) = true →
  mg name = some (.ref f) → K.lookup f = some ⟨oc, od, .func fd, sl⟩ → fd.code = .ref c → K.lookup c = some ⟨e, dd, .fields vs, sl'⟩ → vs[11]? = some (.ref P) → h.get? P = some { cls := .none, data := .fields #[] } ∧ PySem.W.CodeHd h c P
theorem tabs_of {q : Program} {loose : List Str} {R : PySem.W.WRecords} {XP : (Str → Option Value) → Heap → Prop} {w : World} {s₀ : Shared} {mg mb : Str → Option Value} {h : Heap} {K : PySem.W.Frag} (G : PySem.W.Ground q loose R XP w s₀ mg mb h) (KX : K.In h) : Tabs q K mg h := by
  intro name f c P oc e od dd fd vs sl sl' hrec hmg k1 k2 k3 k4
  obtain ⟨dL, hm, hn1⟩ := List.any_eq_true.mp hrec
  have hn2 : dL.name = name := beq_iff_eq.mp hn1
  obtain ⟨a', o', fd', c', P', h1, h2, h3, h4, h5, h6⟩ := G.T.tab dL hm
  rw [hn2, hmg] at h1
  cases h1
  have g1 := KX _ _ k1
  rw [g1] at h2
  cases h2
  cases h3
  rw [k2] at h4
  cases h4
  have h6' := h6
  obtain ⟨⟨oc', vc, e1, _, e3, e4⟩, hP⟩ := h6
  have g2 := KX _ _ k3
  rw [g2] at e1
  cases e1
  cases e3
  rw [k4] at e4
  cases e4
  exact ⟨hP, PySem.W.CodeHd.of h5 h6'⟩
/-! ### data of any depth in a tuple -/
def rInDT (K : PySem.W.Frag) : R2 := fun x y H Q => ∃ d ds, Dp K H x d ∧ Dp K H y (.tuple ds) ∧ SeqAt.shaped d = true ∧ SeqAt.shaped (.tuple ds) = true ∧ Q (.bl (ds.any fun z => PyData.eqv z d)) H
theorem op_inDT {X : Cx} (hu : X.A.units + 65 < cLine) : OpR X (compareOp .In) (rInDT X.K) := by
  intro pins s σ H x y v u Q I rx ry h
  obtain ⟨d, ds, hd, he, sd, se, q⟩ := h
  obtain ⟨as, r1⟩ := Dp.reads I d x v hd rx
  obtain ⟨bs, r2⟩ := Dp.reads I (.tuple ds) y u he ry
  exact SeqAt.in_tuple_reads r2 r1 (SeqAt.canLay_of_shaped se) (SeqAt.canLay_of_shaped sd) (room_in_shaped sd hu) ⟨.bl _, H, I, rfl, q⟩
/-! ### kinds of a thing -/
def kindB (T : String) : Bool := T == "int" || T == "bool" || T == "str" || T == "NoneType" || T == "tuple" || T == "list" || T == "dict"
theorem kind_cases {T : String} (h : kindB T = true) : T = "int" ∨ T = "bool" ∨ T = "str" ∨ T = "NoneType" ∨ T = "tuple" ∨ T = "list" ∨ T = "dict" := by
  unfold kindB at h
  simp only [Bool.or_eq_true, beq_iff_eq, or_assoc] at h
  exact h
/-- of a kind that isinstance is asked for -/
def Kd (K : PySem.W.Frag) (H : Hp) (v : V) (T : String) : Prop := kindB T = true ∧ TyX K H v (.type T)
theorem kit_int {K : PySem.W.Frag} {T : String} (h : kindB T = true) : PySem.W.kitOne K (.type T) (.type "int") = some (T == "int" || T == "bool") := by
  rcases kind_cases h with rfl | rfl | rfl | rfl | rfl | rfl | rfl <;> exact kit_ty (by decide +kernel)
theorem kit_bool {K : PySem.W.Frag} {T : String} (h : kindB T = true) : PySem.W.kitOne K (.type T) (.type "bool") = some (T == "bool") := by
  rcases kind_cases h with rfl | rfl | rfl | rfl | rfl | rfl | rfl <;> exact kit_ty (by decide +kernel)
theorem kit_str {K : PySem.W.Frag} {T : String} (h : kindB T = true) : PySem.W.kitOne K (.type T) (.type "str") = some (T == "str") := by
  rcases kind_cases h with rfl | rfl | rfl | rfl | rfl | rfl | rfl <;> exact kit_ty (by decide +kernel)
theorem kit_tuple {K : PySem.W.Frag} {T : String} (h : kindB T = true) : PySem.W.kitOne K (.type T) (.type "tuple") = some (T == "tuple") := by
  rcases kind_cases h with rfl | rfl | rfl | rfl | rfl | rfl | rfl <;> exact kit_ty (by decide +kernel)
theorem kd_int {K : PySem.W.Frag} {H : Hp} {i : Int} : Kd K H (.int i) "int" := ⟨by decide, .base (.int _)⟩
theorem kd_str {K : PySem.W.Frag} {H : Hp} {x : Str} : Kd K H (.str x) "str" := ⟨by decide, .base (.str _)⟩
theorem kd_non {K : PySem.W.Frag} {H : Hp} : Kd K H .non "NoneType" := ⟨by decide, .base .non⟩
theorem kd_tup {K : PySem.W.Frag} {H : Hp} {a : Addr} {xs : List V} (h : H a = some (.tup xs)) : Kd K H (.ref a) "tuple" := ⟨by decide, .base (.tup h)⟩
end Lk
namespace L2
open PySem
theorem Room.u65 {k : Nat} {A : Around} (r : Room k A) : A.units + 65 < cLine := by have := r.un; omega
end L2
namespace Lk
open PySem PySem.Spec PyProof.Rows L2 Evl
theorem g_chain {r r' : R2} {ta tb tc : TE} {σ : L2.St} {H : Hp} {Q : VK} (h : ta σ H fun x H1 => tb σ H1 fun y H2 => r x y H2 fun z H3 => ∃ k, z = .bl k ∧ (if k = true then tc σ H3 fun w' H4 => r' y w' H4 Q else Q (.bl false) H3)) : tChain r r' ta tb tc σ H Q := h
theorem g_allG {X : Cx} {P : Addr} {scope : Scope} {x : Str} {elt : Expr} {te : TE} {σ : L2.St} {H : Hp} {Q : VK} (h : te σ H fun v H1 => H1 P = some (TabO P) ∧ ∃ n pb, ItOk X scope x elt P v σ H1 n pb ∧ Q (.bl ((List.range n).all pb)) H1) : tAllG X P scope x elt te σ H Q := h
end Lk

namespace Lk
open PySem PySem.Spec PyProof.Rows L2 Evl
section
variable {X : Cx} {pins : List (Addr × Obj)} {σ : L2.St} {H : Hp} {s1 s : Shared} {P : Addr}
/-- what a captured name holds -/
theorem cell_slot {i : Nat} {o : Str} {v : V} (I : Inv X pins σ H s1) (hN : X.N[i]? = some o) (hσ : σ[i]? = some (some v)) (hk : X.env.kindOf o = some .cell) : ∃ c u, X.env.cells.lookup o = some c ∧ s1.heap.IsCell c (some u) ∧ RelV v u := by
  obtain ⟨m, _, h⟩ := I.loc
  obtain ⟨u, r, l⟩ := h i o v hN hσ (.inr (.inl hk))
  rcases l with ⟨l, _⟩ | ⟨_, c, e, hc⟩
  · rw [hk] at l
    cases l
  · exact ⟨c, u, e, hc, r⟩
theorem ge_cap {scope : Scope} {cenv : Env} {A' : Around} {E' : Value → Shared → Prop} {s₂ : Shared} {o : Str} {c : Addr} {v : Value} {p : Pos} {Q : Value → Shared → Prop} (I : Inv X pins σ H s1) (hP : H P = some (TabO P)) (kp : ∀ b o, b ≠ P → s1.heap.get? b = some o → s₂.heap.get? b = some o)
    (GE : GEnv X scope cenv) (hk : scope.kind = .function) (hl : scope.names.lookup o = some .free) (hc : (cloFrom X.env.cells scope.names []).lookup o = some c) (hv : s1.heap.IsCell c (some v)) (hd : (o == ("__debug__" : Str)) = false) (hn : (o == ("__classdict__" : Str)) = false)
    (h : Q v s₂) : wpAny (model X.prog X.w) A' (eval (.Name o p) cenv) Q E' s₂ := by
  obtain ⟨ob, e, d⟩ := hv
  have hne : c ≠ P := fun z => by
    obtain ⟨ps, e2⟩ := tab_at I hP
    rw [z, e2] at e
    cases e
    cases d
  exact wpAny_Name (wpAny_loadName_free (by rw [GE.sc]; exact hk) (show cenv.scope.names.lookup o = _ by rw [GE.sc]; exact hl) (by rw [GE.ce]; exact hc) ⟨ob, kp _ _ hne e, d⟩ h hn) hd
theorem strs_are : ∀ {ws : List Str} {its : List Value}, Vals (ws.map V.str) its → StrsAre its ws
  | [], _, r => by
    cases r
    exact .nil
  | y :: ws, _, r => by
    cases r with
    | cons r1 r2 =>
      obtain ⟨t, rfl⟩ := r1
      exact .cons y t (strs_are r2)
theorem item_str {ws : List Str} {its : List Value} {i : Nat} {v : Value} (rv : Vals (ws.map V.str) its) (hv : its.toArray[i]? = some v) : ∃ (y : Str) (t : Tok), ws[i]? = some y ∧ v = .str y t := by
  have hv2 : its[i]? = some v := by simpa using hv
  have hi : i < its.length := (List.getElem?_eq_some_iff.mp hv2).1
  have hl := rv.length
  rw [List.length_map] at hl
  have hw : i < ws.length := by omega
  obtain ⟨u, hu, ru⟩ := rv.get (show (ws.map V.str)[i]? = some (V.str ws[i]) by rw [List.getElem?_map, List.getElem?_eq_getElem hw] <;> rfl)
  rw [hv2] at hu
  cases hu
  obtain ⟨t, e⟩ := _root_.id ru
  exact ⟨_, t, List.getElem?_eq_getElem hw, e⟩
/-- x in o[C]: texts in a tuple of texts that stands in a captured tuple -/
theorem elt_inSub {scope : Scope} {x o C : Str} {c tp dp : Addr} {j : Nat} {ct : Value} {xs : List V} {us ws : List Str} {its : List Value} {p1 p2 p3 p4 p5 : Pos} (I : Inv X pins σ H s1) (hP : H P = some (TabO P)) (hk : scope.kind = .function) (hl : scope.names.lookup x = some .local) (hd : (x == ("__debug__" : Str)) = false)
    (ho : scope.names.lookup o = some .free) (do1 : (o == ("__debug__" : Str)) = false) (do2 : (o == ("__classdict__" : Str)) = false) (hc : (cloFrom X.env.cells scope.names []).lookup o = some c) (hv : s1.heap.IsCell c (some (.ref tp)))
    (hC : scope.names.lookup C = some .globalImplicit) (mC : X.mg C = some ct) (rC : RelV (.int j) ct) (dC : (C == ("__debug__" : Str)) = false) (hj : (j : Int) < 1000000) (ht : SqT X.K H tp xs) (hx : xs[j]? = some (.ref dp)) (hdp : SqT X.K H dp (us.map V.str)) (rv : Vals (ws.map V.str) its) :
    EltOk X scope x (.Compare (.Name x p1) [.In] [.Subscript (.Name o p2) (.Name C p3) p4] p5) P s1 (fun i v => its.toArray[i]? = some v) (fun i => (ws[i]?.map fun y => us.any (· == y)).getD false) := by
  intro cenv A' E' i v s₂ m₂ GE hA hD hU hv2 hn hm kp
  obtain ⟨y, t, hy, rfl⟩ := item_str rv hv2
  have kb := ge_kb I hP kp
  obtain ⟨ii, rt, ⟨ob, e1, e2, n, e3⟩, hz⟩ := I.tuple ht
  obtain ⟨jj, rd, ⟨oc, g1, g2, n2, g3⟩, _⟩ := I.tuple hdp
  have ne1 := tup_ne I hP ht
  have ne2 := tup_ne I hP hdp
  obtain ⟨w, hw, rw'⟩ := rt.get hx
  obtain rfl : w = Value.ref dp := rw'
  obtain ⟨tt, rfl⟩ := _root_.id rC
  have hjl : j < ii.length := (List.getElem?_eq_some_iff.mp hw).1
  refine wpAny_Compare1 (ge_own GE hk hl hn hm hd ?_) (by rfl)
  refine Subscript_ (ge_cap I hP kp GE hk ho hc hv do1 do2 (ge_glob I kb GE hk hC mC dC ?_))
  refine subscriptTail_builtinR (x := .ref dp) (T := "tuple") ⟨ob, kp _ _ ne1 e1, e2⟩ slot_tuple_getitem.lookup
    (getItem_tuple (j := j) (Q := fun r s' => r = .ref dp ∧ wpAny (model X.prog X.w) A' (compareOp .In (.str y t) r) _ E' s') ⟨ob, kp _ _ ne1 e1, e2, n, e3⟩ (by omega) (by omega) ?_ (by simpa using hw) ⟨rfl, ?_⟩) rfl
  · rw [List.size_toArray]
    unfold seqIndex?
    simp
    omega
  · refine in_tuple_strs ⟨oc, kp _ _ ne2 g1, g2, n2, g3⟩ (by simpa using strs_are rd) ⟨?_, GxR.keeps_refl _⟩
    simp only [hy, Option.map_some, Option.getD_some]
theorem ok_inSub {scope : Scope} {x o C : Str} {tp dp a : Addr} {i j : Nat} {ct : Value} {xs : List V} {us ws : List Str} {p1 p2 p3 p4 p5 : Pos} (hP : H P = some (TabO P)) (hk : scope.kind = .function) (hl : scope.names.lookup x = some .local) (ho : scope.names.lookup o = some .free)
    (hclo : ∀ c, X.env.cells.lookup o = some c → (cloFrom X.env.cells scope.names []).lookup o = some c) (hN : X.N[i]? = some o) (hσ : σ[i]? = some (some (.ref tp))) (ho2 : X.env.kindOf o = some .cell) (hC : scope.names.lookup C = some .globalImplicit) (mC : X.mg C = some ct) (rC : RelV (.int j) ct) (hj : (j : Int) < 1000000)
    (ht : SqT X.K H tp xs) (hx : xs[j]? = some (.ref dp)) (hdp : SqT X.K H dp (us.map V.str)) (ha : SqT X.K H a (ws.map V.str)) (hd : (x == ("__debug__" : Str)) = false := by decide) (do1 : (o == ("__debug__" : Str)) = false := by decide) (do2 : (o == ("__classdict__" : Str)) = false := by decide)
    (dC : (C == ("__debug__" : Str)) = false := by decide) :
    ItOk X scope x (.Compare (.Name x p1) [.In] [.Subscript (.Name o p2) (.Name C p3) p4] p5) P (.ref a) σ H ws.length (fun i => (ws[i]?.map fun y => us.any (· == y)).getD false) := fun pins s u I r => by
  obtain rfl : u = Value.ref a := r
  obtain ⟨its, rv, ⟨ob, h1, h2, n, h3⟩, _⟩ := I.tuple ha
  obtain ⟨c, cv, e1, e2, e3⟩ := cell_slot I hN hσ ho2
  obtain rfl : cv = Value.ref tp := e3
  refine ⟨_, ?_, elt_inSub I hP hk hl hd ho do1 do2 (hclo c e1) e2 hC mC rC dC hj ht hx hdp rv⟩
  have hlen : its.toArray.size = ws.length := by rw [List.size_toArray, ← rv.length, List.length_map]
  rw [← hlen]
  exact it_tup (tab_lt I hP) ⟨ob, h1, h2, n, h3⟩ (tup_ne I hP ha)
theorem all_ix {α : Type} (f : α → Bool) (ws : List α) : (List.range ws.length).all (fun i => (ws[i]?.map f).getD false) = ws.all f := by
  rw [Bool.eq_iff_iff, List.all_eq_true, List.all_eq_true]
  constructor
  · intro h b hb
    obtain ⟨j, hj, e⟩ := List.getElem_of_mem hb
    have q := h j (List.mem_range.mpr hj)
    rw [List.getElem?_eq_getElem hj, e] at q
    exact q
  · intro h j hj
    have hj' := List.mem_range.mp hj
    rw [List.getElem?_eq_getElem hj']
    exact h _ (List.getElem_mem hj')
end
/-! ### a call by two keywords, the second parameter first -/
structure CalS (P : Program) (w : World) (K : PySem.W.Frag) (mg : Str → Option Value) (base : Heap) (k : Nat) (x : Str) (sp : Sp) (a b : Str) : Prop where
  ex : ∃ (f : Addr) (fd : FuncData), FnOk P w K mg base CX0 k f fd [a, b] sp ∧ mg x = some (.ref f) ∧ PySem.W.keepIn K (.ref f) = true ∧ ∀ (s : Shared) (v1 v2 : Value), BindsTo s fd ⟨[], [(b, v1), (a, v2)]⟩ [(a, v2), (b, v1)]
/-- .. of a def that holds a generator expression -/
structure AtCS (K : PySem.W.Frag) (mg : Str → Option Value) (x : Str) (st : Stmt) (a b : Str) (c : Addr) : Prop where
  ex : ∃ f fd, Fun K x x st f fd ∧ mg x = some (.ref f) ∧ (∀ (s : Shared) (v1 v2 : Value), BindsTo s fd ⟨[], [(b, v1), (a, v2)]⟩ [(a, v2), (b, v1)]) ∧ fd.code = .ref c
theorem AtCS.of {P : Program} {w : World} {K : PySem.W.Frag} {mg : Str → Option Value} {base : Heap} {x a b : Str} {st : Stmt} {k : Nat} {sp : Sp} {c : Addr} (A : AtCS K mg x st a b c) (h : ∀ f fd, Fun K x x st f fd → fd.code = .ref c → FnOk P w K mg base CX0 k f fd [a, b] sp) : CalS P w K mg base k x sp a b := by
  obtain ⟨f, fd, F1, g, b, e⟩ := A.ex
  exact ⟨⟨f, fd, h f fd F1 e, g, F1.kp, b⟩⟩
section
variable {X : Cx} {k j : Nat} {x a b : Str} {sp : Sp} {p pos : Pos} {kws : List Keyword} {tk : TA}
def tCallS (sp : Sp) (t : TA) : TE := fun σ H Q => t σ H fun zs H2 => ∃ y z, zs = [y, z] ∧ sp [z, y] H2 Q E0
theorem pe_cs (c : CalS X.prog X.w X.K X.mg X.base k x sp a b) (hr : Room j X.A) (hk : k ≤ j) (hg : Gl X x) (hkw : PK X kws tk)
    (hall : (backToKw pos (keywordEach kws X.env)).all (·.1.isSome) = true := by rfl) (hks : (backToKw pos (keywordEach kws X.env)).filterMap (·.1) = [b, a] := by rfl) (hdb : (x == ("__debug__" : Str)) = false := by decide)
    (hpl : ((backTo pos (starEach [] X.env)).any (·.1) || (backToKw pos (keywordEach kws X.env)).any (·.1.isNone)) = false := by rfl) :
    PE X (.Call (.Name x p) [] kws pos) (tCallS sp tk) := by
  obtain ⟨f, fd, F, hm, kp, b⟩ := c.ex
  refine ⟨fun pins s σ H Q I h => ?_⟩
  refine wpAny_Call_Name_kw (ld_glob I hg hm ?_ hdb)
  refine PySem.W.callWith_KW0 (h₀ := X.base) I.ok.mod.kin kp hall ?_ hpl
  refine thn (hkw.run pos pins s σ H _ I h) fun ws s2 ⟨zs, H2, I2, rz, q2⟩ => ⟨I2.kIn, ?_⟩
  obtain ⟨y, z, rfl, q2⟩ := q2
  obtain ⟨u1, u2, rfl, r1, r2⟩ := vals2 rz
  rw [hks]
  refine wpAny_call (codeAny_mono (F.run X.A X.stack s2 H2 ⟨[], _⟩ [u2, u1] [z, y] Q E0 (hr.mono hk) I2.env0 (b s2 u1 u2) (.cons r2 (.cons r1 .nil)) q2) fun r s' hq => ?_)
  cases r with
  | error e => exact False.elim hq
  | ok fl =>
    cases fl with
    | ret u => exact I2.after hq
    | next => exact False.elim hq
    | brk => exact False.elim hq
    | cont => exact False.elim hq
theorem g_callS {σ : L2.St} {H : Hp} {Q : VK} {t : TA} (h : t σ H fun zs H2 => ∃ y z, zs = [y, z] ∧ sp [z, y] H2 Q E0) : tCallS sp t σ H Q := h
end
/-! ### in a comprehension's block: K by name -/
section
variable {X : Cx} {K : PySem.W.Frag}
theorem ix_tupK (h : X.K = K) : IxR X (rIxT K) := by
  subst h
  exact ix_tup
theorem ix_listK (h : X.K = K) : IxR X (rIxL K) := by
  subst h
  exact ix_list
theorem op_in_seqK (h : X.K = K) : OpR X (compareOp .In) (rIn K false) := by
  subst h
  exact op_in_seq
theorem op_notIn_seqK (h : X.K = K) : OpR X (compareOp .NotIn) (rIn K true) := by
  subst h
  exact op_notIn_seq
theorem call_isiK (h : X.K = K) : CallR X (.builtin "isinstance") (rIsi K) := by
  subst h
  exact call_isi
end
/-! ### comprehensions over a tuple, a list: a test and an item that leave the heap -/
theorem lcT {K : PySem.W.Frag} {a Dl : Addr} {xs : List V} {j : Nat} {tt : TT} {te : TE} {σ : L2.St} {H1 : Hp} {Qd : Hp → Prop} (tb : V → Bool) (fe : V → V) (hz : xs.length ≤ 100000) (hD : H1 Dl = none) (ha : SqT K H1 a xs)
    (hs : ∀ x ∈ xs, ∀ (H : Hp) (R : Bool → Hp → Prop), Ex H1 H → R (tb x) H → tt ((wipe σ [j]).set j (some x)) H R) (he : ∀ x ∈ xs, ∀ (H : Hp) (R : VK), Ex H1 H → R (fe x) H → te ((wipe σ [j]).set j (some x)) H R)
    (hd : ∀ H, Ex H1 H → H Dl = some (.lst ((xs.filter tb).map fe)) → Qd H) :
    ∃ W : Nat → Nat → Hp → Prop, (∃ m, W 0 m (upd H1 Dl (.lst []))) ∧ ∀ i m H, W i m H →
      ((Itt K a).stop i H ∧ Qd H) ∨ ((Itt K a).go i H ∧ ∃ Nx : Hp → Prop, (∀ H', Nx H' → ∃ m', m' < m ∧ W (i + 1) m' H') ∧ ∀ x H', (Itt K a).yld i H x H' → gName j x (wipe σ [j]) H' fun σ2 H2 => wipe σ2 [j] = wipe σ [j] ∧ tt σ2 H2 fun b H3 =>
        if b = true then te σ2 H3 fun y H4 => ∃ acc, H4 Dl = some (.lst acc) ∧ acc.length < sizeLine ∧ Nx (upd H4 Dl (.lst (acc ++ [y]))) else Nx H3) := by
  refine ⟨fun i m H => m = xs.length - i ∧ i ≤ xs.length ∧ Ex H1 H ∧ H Dl = some (.lst (((xs.take i).filter tb).map fe)), ⟨xs.length, by simp, Nat.zero_le _, Ex.new hD, by rw [upd_same] <;> rfl⟩, ?_⟩
  rintro i m H ⟨rfl, hi, e, hl⟩
  have ha' := ex_t e ha
  by_cases hlt : i < xs.length
  · have hx : xs[i]? = some xs[i] := List.getElem?_eq_getElem hlt
    have hm : xs[i] ∈ xs := List.getElem_mem hlt
    have htk : xs.take (i + 1) = xs.take i ++ [xs[i]] := by rw [List.take_succ, hx] <;> rfl
    refine .inr ⟨⟨xs, _, ha', hx⟩, fun H' => Ex H1 H' ∧ H' Dl = some (.lst (((xs.take (i + 1)).filter tb).map fe)), fun H' q' => ⟨xs.length - (i + 1), by omega, rfl, hlt, q'⟩, fun v H' y => ?_⟩
    obtain ⟨rfl, y⟩ := y
    have y' := y xs ha'
    rw [hx] at y'
    cases y'
    refine ⟨wipe1 _, hs _ hm _ _ e ?_⟩
    cases hb : tb xs[i] with
    | false =>
      refine ite_ff ⟨e, ?_⟩
      rw [hl, htk, List.filter_append, List.filter_cons_of_neg (by rw [hb]; decide)] <;> simp
    | true =>
      refine ite_tt (he _ hm _ _ e ⟨_, hl, ?_, e.mut hD, ?_⟩)
      · have l1 := List.length_filter_le tb (xs.take i)
        rw [List.length_map]
        exact Nat.lt_of_le_of_lt (Nat.le_trans l1 (Nat.le_trans (List.length_take_le' i xs) hz)) (by decide)
      · rw [upd_same, htk, List.filter_append, List.filter_cons_of_pos hb] <;> simp
  · have e2 : i = xs.length := by omega
    subst e2
    refine .inl ⟨⟨xs, ha', Nat.le_refl _⟩, hd H e ?_⟩
    rw [hl, List.take_length]
theorem lcL {K : PySem.W.Frag} {a Dl : Addr} {xs : List V} {j : Nat} {tt : TT} {te : TE} {σ : L2.St} {H1 : Hp} {Qd : Hp → Prop} (tb : V → Bool) (fe : V → V) (hz : xs.length ≤ 100000) (hD : H1 Dl = none) (ha : SqL K H1 a xs)
    (hs : ∀ x ∈ xs, ∀ (H : Hp) (R : Bool → Hp → Prop), Ex H1 H → (∀ H', Ex H H' → R (tb x) H') → tt ((wipe σ [j]).set j (some x)) H R) (he : ∀ x ∈ xs, ∀ (H : Hp) (R : VK), Ex H1 H → R (fe x) H → te ((wipe σ [j]).set j (some x)) H R)
    (hd : ∀ H, Ex H1 H → H Dl = some (.lst ((xs.filter tb).map fe)) → Qd H) :
    ∃ W : Nat → Nat → Hp → Prop, (∃ m, W 0 m (upd H1 Dl (.lst []))) ∧ ∀ i m H, W i m H →
      ((Itl K a).stop i H ∧ Qd H) ∨ ((Itl K a).go i H ∧ ∃ Nx : Hp → Prop, (∀ H', Nx H' → ∃ m', m' < m ∧ W (i + 1) m' H') ∧ ∀ x H', (Itl K a).yld i H x H' → gName j x (wipe σ [j]) H' fun σ2 H2 => wipe σ2 [j] = wipe σ [j] ∧ tt σ2 H2 fun b H3 =>
        if b = true then te σ2 H3 fun y H4 => ∃ acc, H4 Dl = some (.lst acc) ∧ acc.length < sizeLine ∧ Nx (upd H4 Dl (.lst (acc ++ [y]))) else Nx H3) := by
  refine ⟨fun i m H => m = xs.length - i ∧ i ≤ xs.length ∧ Ex H1 H ∧ H Dl = some (.lst (((xs.take i).filter tb).map fe)), ⟨xs.length, by simp, Nat.zero_le _, Ex.new hD, by rw [upd_same] <;> rfl⟩, ?_⟩
  rintro i m H ⟨rfl, hi, e, hl⟩
  have ha' := ex_l e ha
  by_cases hlt : i < xs.length
  · have hx : xs[i]? = some xs[i] := List.getElem?_eq_getElem hlt
    have hm : xs[i] ∈ xs := List.getElem_mem hlt
    have htk : xs.take (i + 1) = xs.take i ++ [xs[i]] := by rw [List.take_succ, hx] <;> rfl
    refine .inr ⟨⟨xs, _, ha', hx⟩, fun H' => Ex H1 H' ∧ H' Dl = some (.lst (((xs.take (i + 1)).filter tb).map fe)), fun H' q' => ⟨xs.length - (i + 1), by omega, rfl, hlt, q'⟩, fun v H' y => ?_⟩
    obtain ⟨rfl, y⟩ := y
    have y' := y xs ha'
    rw [hx] at y'
    cases y'
    refine ⟨wipe1 _, hs _ hm _ _ e fun H3 e3 => ?_⟩
    cases hb : tb xs[i] with
    | false =>
      refine ite_ff ⟨e.trans e3, ?_⟩
      rw [e3 _ _ hl, htk, List.filter_append, List.filter_cons_of_neg (by rw [hb]; decide)] <;> simp
    | true =>
      refine ite_tt (he _ hm _ _ (e.trans e3) ⟨_, e3 _ _ hl, ?_, (e.trans e3).mut hD, ?_⟩)
      · have l1 := List.length_filter_le tb (xs.take i)
        rw [List.length_map]
        exact Nat.lt_of_le_of_lt (Nat.le_trans l1 (Nat.le_trans (List.length_take_le' i xs) hz)) (by decide)
      · rw [upd_same, htk, List.filter_append, List.filter_cons_of_pos hb] <;> simp
  · have e2 : i = xs.length := by omega
    subst e2
    refine .inl ⟨⟨xs, ha', Nat.le_refl _⟩, hd H e ?_⟩
    rw [hl, List.take_length]
theorem g_BM {K : PySem.W.Frag} {Ty : String} {r : V → List V → Hp → VK → Prop} {to : TE} {t : TA} {σ : L2.St} {H : Hp} {Q : VK} (h : to σ H fun x H1 => tyV K Ty x H1 ∧ t σ H1 fun xs H2 => r x xs H2 Q) : tBM K Ty r to t σ H Q := h
end Lk

/-! Fx: values as trees, what a frame owns; the readings of expressions and statements over these -/
namespace Fx
open PySem PySem.Spec PyProof.Rows L2 Evl Lk

/-- a built-in class; a class of the program; an exception that was caught: its class, the number that it bears -/
inductive Tk where
  | bt (n : String) | cls (C : Addr) | exc (C : Addr) (row : Option Int)
instance : Coe String Tk := ⟨.bt⟩
/-- a value that is not changed any more, as a tree -/
inductive D where
  | non | bl (b : Bool) | int (i : Int) | str (x : Str) | ty (n : Tk)
  | lst (ds : List D) | tup (ds : List D) | dic (ks : List Key) (ds : List D)
/-- a thing that is owned: a list, a dict, an instance; or a value -/
inductive O where
  | f (d : D) | lst (ds : List D) | dic (ks : List Key) (os : List O) | ins (C : Addr) (ns : List Str) (os : List O)
/-- a slot -/
inductive Sl where
  | f (d : D) | own (o : O) | vw (o : O)
abbrev Env := List (Option Sl)
/-- an exception in the air: its class, the number that it bears -/
structure Xv where
  C : Addr
  row : Option Int
/-- a def's run: what is known of the top, the tables, the state at its entry, the slots that keep their things -/
structure Gx where
  K : PySem.W.Frag
  tabs : List Addr
  T0 : Addr → Prop
  H0 : Hp
  P0 : Addr → Prop
  σ0 : L2.St
  prot : Nat → Bool
  /-- what is wanted of an exception, of the frame behind it; what stands and is kept till then -/
  xw : Xv → Env → Prop
  hx : Hp

/-- an exception that was caught, as an object -/
def ExT (a C : Addr) (d : Option Addr) : HO := .ext fun h => ∃ (oe : Obj) (vs : Array Value), h.get? a = some oe ∧ oe.cls = .ref C ∧ oe.dict = d ∧ oe.data = .fields vs
/-- what it bears -/
def RowR (H : Hp) (d : Option Addr) : Option Int → Prop
  | none => d = none
  | some r => ∃ dd, d = some dd ∧ H dd = some (.xd [("row", .int r)])
mutual
inductive Fz (K : PySem.W.Frag) (H : Hp) : V → D → Prop
  | non : Fz K H .non .non
  | bl (b : Bool) : Fz K H (.bl b) (.bl b)
  | int (i : Int) : Fz K H (.int i) (.int i)
  | str (x : Str) : Fz K H (.str x) (.str x)
  | ty (n : String) : Fz K H (.ty n) (.ty n)
  | cls (C : Addr) : Fz K H (.ref C) (.ty (.cls C))
  | exc {a C : Addr} {d : Option Addr} {row : Option Int} : H a = some (ExT a C d) → RowR H d row → Fz K H (.ref a) (.ty (.exc C row))
  | lst {a : Addr} {vs : List V} {ds : List D} : SqL K H a vs → FzL K H vs ds → Fz K H (.ref a) (.lst ds)
  | tup {a : Addr} {vs : List V} {ds : List D} : SqT K H a vs → FzL K H vs ds → Fz K H (.ref a) (.tup ds)
  | dic {a : Addr} {ks : List Key} {vs : List V} {ds : List D} : Rd H a (.dK (ks.zip vs)) → ks.length = vs.length → FzL K H vs ds → Fz K H (.ref a) (.dic ks ds)
inductive FzL (K : PySem.W.Frag) (H : Hp) : List V → List D → Prop
  | nil : FzL K H [] []
  | cons {v : V} {vs : List V} {d : D} {ds : List D} : Fz K H v d → FzL K H vs ds → FzL K H (v :: vs) (d :: ds)
end
theorem RowR.ex {H H' : Hp} {d : Option Addr} (e : Ex H H') : ∀ {r : Option Int}, RowR H d r → RowR H' d r
  | none, h => h
  | some _, ⟨dd, h1, h2⟩ => ⟨dd, h1, e _ _ h2⟩
section
variable {K : PySem.W.Frag} {H H' : Hp}
mutual
theorem Fz.ex (e : Ex H H') : ∀ {d : D} {v : V}, Fz K H v d → Fz K H' v d
  | .non, _, h => by cases h; exact .non
  | .bl b, _, h => by cases h; exact .bl b
  | .int i, _, h => by cases h; exact .int i
  | .str x, _, h => by cases h; exact .str x
  | .ty (.bt n), _, h => by cases h; exact .ty n
  | .ty (.cls C), _, h => by cases h; exact .cls C
  | .ty (.exc C r), _, h => by cases h with | exc a b => exact .exc (e _ _ a) (b.ex e)
  | .lst ds, _, h => by cases h with | lst a b => exact .lst (ex_l e a) (FzL.ex e b)
  | .tup ds, _, h => by cases h with | tup a b => exact .tup (ex_t e a) (FzL.ex e b)
  | .dic ks ds, _, h => by cases h with | dic a l b => exact .dic (ex_rd e a) l (FzL.ex e b)
theorem FzL.ex (e : Ex H H') : ∀ {ds : List D} {vs : List V}, FzL K H vs ds → FzL K H' vs ds
  | [], _, h => by cases h; exact .nil
  | d :: ds, _, h => by cases h with | cons a b => exact .cons (Fz.ex e a) (FzL.ex e b)
end
theorem FzL.length {vs : List V} {ds : List D} (h : FzL K H vs ds) : vs.length = ds.length := by
  induction ds generalizing vs with
  | nil => cases h; rfl
  | cons d ds ih => cases h with | cons a b => simp only [List.length_cons, ih b]
theorem FzL.get {vs : List V} {ds : List D} (h : FzL K H vs ds) {i : Nat} {v : V} {d : D} (hv : vs[i]? = some v) (hd : ds[i]? = some d) : Fz K H v d := by
  induction ds generalizing vs i with
  | nil => cases hd
  | cons e ds ih => cases h with
    | cons a b => cases i with
      | zero => cases hv; cases hd; exact a
      | succ i => exact ih b (by simpa using hv) (by simpa using hd)
theorem FzL.append {vs ws : List V} {ds es : List D} (h : FzL K H vs ds) (g : FzL K H ws es) : FzL K H (vs ++ ws) (ds ++ es) := by
  induction ds generalizing vs with
  | nil => cases h; exact g
  | cons d ds ih => cases h with | cons a b => exact .cons a (ih b)
theorem FzL.take {vs : List V} {ds : List D} (n : Nat) (h : FzL K H vs ds) : FzL K H (vs.take n) (ds.take n) := by
  induction ds generalizing vs n with
  | nil => cases h; simp; exact .nil
  | cons d ds ih => cases h with
    | cons a b => cases n with
      | zero => exact .nil
      | succ n => exact .cons a (ih n b)
theorem FzL.drop {vs : List V} {ds : List D} (n : Nat) (h : FzL K H vs ds) : FzL K H (vs.drop n) (ds.drop n) := by
  induction ds generalizing vs n with
  | nil => cases h; simp; exact .nil
  | cons d ds ih => cases h with
    | cons a b => cases n with
      | zero => exact .cons a b
      | succ n => exact ih n b
theorem FzL.set {vs : List V} {ds : List D} {v : V} {d : D} (h : FzL K H vs ds) (r : Fz K H v d) (i : Nat) : FzL K H (vs.set i v) (ds.set i d) := by
  induction ds generalizing vs i with
  | nil => cases h; exact .nil
  | cons e ds ih => cases h with
    | cons a b => cases i with
      | zero => exact .cons r b
      | succ i => exact .cons a (ih b i)
theorem FzL.reverse {vs : List V} {ds : List D} (h : FzL K H vs ds) : FzL K H vs.reverse ds.reverse := by
  induction ds generalizing vs with
  | nil => cases h; exact .nil
  | cons d ds ih => cases h with
    | cons a b =>
      rw [List.reverse_cons, List.reverse_cons]
      exact (ih b).append (.cons a .nil)
end

open Classical in
/-- the heap without what is owned -/
noncomputable def hid (T : Addr → Prop) (H : Hp) : Hp := fun a => if T a then none else H a
section
variable {T T' : Addr → Prop} {H H' : Hp} {a : Addr} {o : HO}
theorem hid_of (h : H a = some o) (n : ¬ T a) : hid T H a = some o := by unfold hid; rw [if_neg n]; exact h
theorem hid_some (h : hid T H a = some o) : H a = some o ∧ ¬ T a := by
  unfold hid at h
  by_cases n : T a
  · rw [if_pos n] at h; cases h
  · rw [if_neg n] at h; exact ⟨h, n⟩
theorem hid_ex : Ex (hid T H) H := fun _ _ h => (hid_some h).1
end

/-- what changed: P alone; T' is what is owned then -/
structure Chg (T : Addr → Prop) (H : Hp) (P : Addr → Prop) (T' : Addr → Prop) (H' : Hp) : Prop where
  keep : ∀ a o, H a = some o → ¬ P a → H' a = some o
  tk : ∀ a, T a → ¬ P a → T' a
  tf : ∀ a, T' a → T a ∨ H a = none
  tr : ∀ a, T' a → H' a ≠ none
  dom : ∀ a, H a ≠ none → H' a ≠ none
def Sub (T P : Addr → Prop) : Prop := ∀ a, P a → T a
abbrev Trk (T : Addr → Prop) (H : Hp) : Prop := ∀ a, T a → H a ≠ none
section
variable {T T1 T2 P P1 P2 : Addr → Prop} {H H1 H2 : Hp}
theorem Chg.refl (t : Trk T H) : Chg T H P T H := ⟨fun _ _ h _ => h, fun _ h _ => h, fun _ h => .inl h, t, fun _ h => h⟩
theorem Chg.trans (t : Trk T H) (a : Chg T H P T1 H1) (b : Chg T1 H1 P1 T2 H2) (s : ∀ a, P1 a → P a ∨ H a = none) : Chg T H P T2 H2 where
  keep := fun x o h n => b.keep x o (a.keep x o h n) fun z => by
    rcases s x z with z | z
    · exact n z
    · rw [z] at h; cases h
  tk := fun x h n => b.tk x (a.tk x h n) fun z => by
    rcases s x z with z | z
    · exact n z
    · exact t x h z
  tf := fun x h => by
    rcases b.tf x h with z | z
    · exact a.tf x z
    · refine .inr ?_
      cases e : H x with
      | none => rfl
      | some o => exact absurd z (a.dom x (by rw [e]; exact nofun))
  tr := b.tr
  dom := fun x h => b.dom x (a.dom x h)
theorem Chg.hid (c : Chg T H P T1 H1) (s : Sub T P) : Ex (hid T H) (hid T1 H1) := fun a o h => by
  obtain ⟨h1, h2⟩ := hid_some h
  refine hid_of (c.keep a o h1 fun z => h2 (s a z)) fun z => ?_
  rcases c.tf a z with z | z
  · exact h2 z
  · rw [z] at h1; cases h1
theorem Chg.ex (c : Chg T H (fun _ => False) T1 H1) : Ex H H1 := fun a o h => c.keep a o h (fun z => z)
theorem Chg.weak (c : Chg T H P T1 H1) (s : ∀ a, P a → P1 a) : Chg T H P1 T1 H1 := ⟨fun a o h n => c.keep a o h fun z => n (s a z), fun a h n => c.tk a h fun z => n (s a z), c.tf, c.tr, c.dom⟩
/-- a new thing -/
theorem Chg.new {p : Addr} {o : HO} (t : Trk T H) (h : H p = none) : Chg T H P T (upd H p o) where
  keep := fun a u e _ => by rw [upd_ne (ne_of_none e h)]; exact e
  tk := fun _ h _ => h
  tf := fun _ h => .inl h
  tr := fun a ha => by
    by_cases e : a = p
    · subst e; rw [upd_same]; exact nofun
    · rw [upd_ne e]; exact t a ha
  dom := fun a ha => by
    by_cases e : a = p
    · subst e; rw [upd_same]; exact nofun
    · rw [upd_ne e]; exact ha
/-- .. that is owned -/
theorem Chg.newOwn {p : Addr} {o : HO} (t : Trk T H) (h : H p = none) : Chg T H P (fun a => T a ∨ a = p) (upd H p o) where
  keep := fun a u e _ => by rw [upd_ne (ne_of_none e h)]; exact e
  tk := fun _ h _ => .inl h
  tf := fun a ha => by
    rcases ha with ha | rfl
    · exact .inl ha
    · exact .inr h
  tr := fun a ha => by
    by_cases e : a = p
    · subst e; rw [upd_same]; exact nofun
    · rw [upd_ne e]
      rcases ha with ha | ha
      · exact t a ha
      · exact absurd ha e
  dom := fun a ha => by
    by_cases e : a = p
    · subst e; rw [upd_same]; exact nofun
    · rw [upd_ne e]; exact ha
/-- an owned thing is written -/
theorem Chg.write {p : Addr} {o : HO} (t : Trk T H) (h : P p) : Chg T H P T (upd H p o) where
  keep := fun a u e n => by rw [upd_ne (fun z => n (by rw [z]; exact h))]; exact e
  tk := fun _ h _ => h
  tf := fun _ h => .inl h
  tr := fun a ha => by
    by_cases e : a = p
    · subst e; rw [upd_same]; exact nofun
    · rw [upd_ne e]; exact t a ha
  dom := fun a ha => by
    by_cases e : a = p
    · subst e; rw [upd_same]; exact nofun
    · rw [upd_ne e]; exact ha
/-- what was owned is so no more -/
theorem Chg.free (t : Trk T H) : Chg T H P (fun a => T a ∧ ¬ P a) H := ⟨fun _ _ h _ => h, fun a h n => ⟨h, n⟩, fun _ h => .inl h.1, fun a h => t a h.1, fun _ h => h⟩
end

/-! ### what is owned -/
mutual
inductive Ow (K : PySem.W.Frag) (T : Addr → Prop) (H : Hp) : O → V → List Addr → Prop
  | f {d : D} {v : V} : Fz K (hid T H) v d → Ow K T H (.f d) v []
  | lst {p : Addr} {vs : List V} {ds : List D} : T p → H p = some (.lst vs) → FzL K (hid T H) vs ds → Ow K T H (.lst ds) (.ref p) [p]
  | dic {p : Addr} {ks : List Key} {vs : List V} {os : List O} {fp : List Addr} : T p → H p = some (.dK (ks.zip vs)) → ks.length = vs.length → OwL K T H os vs fp → p ∉ fp → Ow K T H (.dic ks os) (.ref p) (p :: fp)
  | ins {p C dx : Addr} {ns : List Str} {vs : List V} {os : List O} {fp : List Addr} : T p → H p = some (.ins C dx (ns.zip vs)) → ns.length = vs.length → OwL K T H os vs fp → p ∉ fp → Ow K T H (.ins C ns os) (.ref p) (p :: fp)
inductive OwL (K : PySem.W.Frag) (T : Addr → Prop) (H : Hp) : List O → List V → List Addr → Prop
  | nil : OwL K T H [] [] []
  | cons {o : O} {os : List O} {v : V} {vs : List V} {f1 f2 : List Addr} : Ow K T H o v f1 → OwL K T H os vs f2 → (∀ a ∈ f1, a ∉ f2) → OwL K T H (o :: os) (v :: vs) (f1 ++ f2)
end
section
variable {K : PySem.W.Frag} {T T' : Addr → Prop} {H H' : Hp}
mutual
theorem Ow.step (e : Ex (hid T H) (hid T' H')) : ∀ {o : O} {v : V} {fp : List Addr}, (∀ a ∈ fp, ∀ u, H a = some u → H' a = some u) → (∀ a ∈ fp, T a → T' a) → Ow K T H o v fp → Ow K T' H' o v fp
  | .f d, _, _, _, _, h => by cases h with | f a => exact .f (a.ex e)
  | .lst ds, _, _, k, t, h => by cases h with | lst a b c => exact .lst (t _ (by simp) a) (k _ (by simp) _ b) (c.ex e)
  | .dic ks os, _, _, k, t, h => by cases h with | dic a b l c n => exact .dic (t _ (by simp) a) (k _ (by simp) _ b) l (OwL.step e (fun x hx => k x (List.mem_cons_of_mem _ hx)) (fun x hx => t x (List.mem_cons_of_mem _ hx)) c) n
  | .ins C ns os, _, _, k, t, h => by cases h with | ins a b l c n => exact .ins (t _ (by simp) a) (k _ (by simp) _ b) l (OwL.step e (fun x hx => k x (List.mem_cons_of_mem _ hx)) (fun x hx => t x (List.mem_cons_of_mem _ hx)) c) n
theorem OwL.step (e : Ex (hid T H) (hid T' H')) : ∀ {os : List O} {vs : List V} {fp : List Addr}, (∀ a ∈ fp, ∀ u, H a = some u → H' a = some u) → (∀ a ∈ fp, T a → T' a) → OwL K T H os vs fp → OwL K T' H' os vs fp
  | [], _, _, _, _, h => by cases h; exact .nil
  | o :: os, _, _, k, t, h => by cases h with
    | cons a b d => exact .cons (Ow.step e (fun x hx => k x (List.mem_append_left _ hx)) (fun x hx => t x (List.mem_append_left _ hx)) a) (OwL.step e (fun x hx => k x (List.mem_append_right _ hx)) (fun x hx => t x (List.mem_append_right _ hx)) b) d
end
end
section
variable {K : PySem.W.Frag} {T : Addr → Prop} {H : Hp}
mutual
theorem Ow.sub : ∀ {o : O} {v : V} {fp : List Addr}, Ow K T H o v fp → ∀ a ∈ fp, T a
  | .f d, _, _, h => by cases h with | f a => intro x hx; cases hx
  | .lst ds, _, _, h => by cases h with | lst a b c => intro x hx; rw [List.mem_singleton.mp hx]; exact a
  | .dic ks os, _, _, h => by cases h with
    | dic a b l c n =>
      intro x hx
      rcases List.mem_cons.mp hx with rfl | hx
      · exact a
      · exact OwL.sub c x hx
  | .ins C ns os, _, _, h => by cases h with
    | ins a b l c n =>
      intro x hx
      rcases List.mem_cons.mp hx with rfl | hx
      · exact a
      · exact OwL.sub c x hx
theorem OwL.sub : ∀ {os : List O} {vs : List V} {fp : List Addr}, OwL K T H os vs fp → ∀ a ∈ fp, T a
  | [], _, _, h => by cases h; intro x hx; cases hx
  | o :: os, _, _, h => by cases h with
    | cons a b d =>
      intro x hx
      rcases List.mem_append.mp hx with hx | hx
      · exact Ow.sub a x hx
      · exact OwL.sub b x hx
end
end
mutual
/-- an owned thing as a value -/
def O.dv : O → D
  | .f d => d
  | .lst ds => .lst ds
  | .dic ks os => .dic ks (O.dvL os)
  | .ins _ _ _ => .non
def O.dvL : List O → List D
  | [] => []
  | o :: os => o.dv :: O.dvL os
end

def SlR (G : Gx) (T : Addr → Prop) (H : Hp) : Sl → V → List Addr → Prop
  | .f d, v, fp => Fz G.K (hid T H) v d ∧ fp = []
  | .own o, v, fp => Ow G.K T H o v fp
  | .vw o, v, fp => Ow G.K T H o v fp
def IsOwn (env : Env) (i : Nat) : Prop := ∃ o, env[i]? = some (some (.own o))
def IsS (env : Env) (i : Nat) : Prop := ∃ s, env[i]? = some (some s)
/-- what the frame may change -/
def OwnP (env : Env) (F : Nat → List Addr) (a : Addr) : Prop := ∃ i, IsOwn env i ∧ a ∈ F i
structure RE (G : Gx) (T : Addr → Prop) (H : Hp) (σ : L2.St) (env : Env) (F : Nat → List Addr) : Prop where
  trk : Trk T H
  tab : ∀ p ∈ G.tabs, H p = some (TabO p) ∧ ¬ T p
  slot : ∀ i s, env[i]? = some (some s) → ∃ v, σ[i]? = some (some v) ∧ SlR G T H s v (F i)
  dis : ∀ i j, i ≠ j → IsOwn env i → IsS env j → ∀ a ∈ F i, a ∉ F j
  st : Chg G.T0 G.H0 G.P0 T H
  ow : ∀ a, OwnP env F a → G.P0 a ∨ G.H0 a = none
  t0 : Trk G.T0 G.H0
  pin : ∀ i, G.prot i = true → σ[i]? = G.σ0[i]?
  len : env.length = σ.length
  hx : Ex G.hx (hid T H)
section
variable {G : Gx} {T T1 T2 : Addr → Prop} {H H1 H2 : Hp} {σ : L2.St} {env env1 env2 : Env} {F F1 F2 : Nat → List Addr} {s : Sl} {v : V} {fp : List Addr}
theorem SlR.sub (h : SlR G T H s v fp) : ∀ a ∈ fp, T a := by
  cases s with
  | f d => obtain ⟨_, rfl⟩ := h; intro a ha; cases ha
  | own o => exact Ow.sub h
  | vw o => exact Ow.sub h
theorem SlR.step (e : Ex (hid T H) (hid T1 H1)) (k : ∀ a ∈ fp, ∀ u, H a = some u → H1 a = some u) (t : ∀ a ∈ fp, T a → T1 a) (h : SlR G T H s v fp) : SlR G T1 H1 s v fp := by
  cases s with
  | f d => exact ⟨h.1.ex e, h.2⟩
  | own o => exact Ow.step e k t h
  | vw o => exact Ow.step e k t h
theorem RE.sub (r : RE G T H σ env F) : Sub T (OwnP env F) := fun a ⟨i, ⟨o, hi⟩, ha⟩ => by
  obtain ⟨v, _, q⟩ := r.slot i _ hi
  exact SlR.sub q a ha
theorem SlR.chg {P : Addr → Prop} (c : Chg T H P T1 H1) (s0 : Sub T P) (n : ∀ a ∈ fp, ¬ P a) (h : SlR G T H s v fp) : SlR G T1 H1 s v fp :=
  h.step (c.hid s0) (fun a ha u e => c.keep a u e (n a ha)) (fun a ha e => c.tk a e (n a ha))
/-- a change elsewhere -/
theorem RE.chg {P : Addr → Prop} (r : RE G T H σ env F) (c : Chg T H P T1 H1) (s0 : Sub T P) (hp : ∀ a, P a → G.P0 a ∨ G.H0 a = none) (n : ∀ i, IsS env i → ∀ a ∈ F i, ¬ P a) : RE G T1 H1 σ env F where
  trk := c.tr
  tab := fun p hp => by
    obtain ⟨h1, h2⟩ := r.tab p hp
    refine ⟨c.keep p _ h1 fun z => h2 (s0 p z), fun z => ?_⟩
    rcases c.tf p z with z | z
    · exact h2 z
    · rw [h1] at z; cases z
  slot := fun i s hi => by
    obtain ⟨v, h1, h2⟩ := r.slot i s hi
    exact ⟨v, h1, h2.chg c s0 (n i ⟨s, hi⟩)⟩
  dis := r.dis
  st := r.st.trans r.t0 c hp
  ow := r.ow
  t0 := r.t0
  pin := r.pin
  len := r.len
  hx := r.hx.trans (c.hid s0)
end
def upF (F : Nat → List Addr) (i : Nat) (fr : List Addr) (j : Nat) : List Addr := if j = i then fr else F j
theorem upF_same {F : Nat → List Addr} {i : Nat} {fr : List Addr} : upF F i fr i = fr := if_pos rfl
theorem upF_ne {F : Nat → List Addr} {i j : Nat} {fr : List Addr} (h : j ≠ i) : upF F i fr j = F j := if_neg h
/-- from a state of the frame to a later one -/
structure Att (G : Gx) (σ : L2.St) (T0 : Addr → Prop) (H0 : Hp) (env0 : Env) (F0 : Nat → List Addr) (T : Addr → Prop) (H : Hp) (env : Env) (F : Nat → List Addr) : Prop where
  chg : Chg T0 H0 (OwnP env0 F0) T H
  re : RE G T H σ env F
  own : ∀ a, OwnP env F a → OwnP env0 F0 a ∨ H0 a = none
  vw : ∀ i o, env[i]? = some (some (.vw o)) → env0[i]? = some (some (.vw o)) ∧ F i = F0 i
section
variable {G : Gx} {T T1 T2 : Addr → Prop} {H H1 H2 : Hp} {σ : L2.St} {env env1 env2 : Env} {F F1 F2 : Nat → List Addr} {s : Sl} {v : V} {fp : List Addr}
theorem Att.refl (r : RE G T H σ env F) : Att G σ T H env F T H env F := ⟨.refl r.trk, r, fun _ h => .inl h, fun _ _ h => ⟨h, rfl⟩⟩
theorem Att.trans (t : Trk T H) (a : Att G σ T H env F T1 H1 env1 F1) (b : Att G σ T1 H1 env1 F1 T2 H2 env2 F2) : Att G σ T H env F T2 H2 env2 F2 := by
  refine ⟨a.chg.trans t b.chg a.own, b.re, fun x hx => ?_, fun i o h => by
    obtain ⟨h1, e1⟩ := b.vw i o h
    obtain ⟨h2, e2⟩ := a.vw i o h1
    exact ⟨h2, e1.trans e2⟩⟩
  rcases b.own x hx with z | z
  · exact a.own x z
  · refine .inr ?_
    cases e : H x with
    | none => rfl
    | some o => exact absurd z (a.chg.dom x (by rw [e]; exact nofun))
end
end Fx

namespace Fx
open PySem PySem.Spec PyProof.Rows L2 Evl Lk

/-- a value whose own list or dict may be owned, its items are not -/
def Cz (K : PySem.W.Frag) (T : Addr → Prop) (H : Hp) (v : V) : D → Prop
  | .lst ds => ∃ a vs, v = .ref a ∧ SqL K H a vs ∧ FzL K (hid T H) vs ds
  | .dic ks ds => ∃ a vs, v = .ref a ∧ Rd H a (.dK (ks.zip vs)) ∧ ks.length = vs.length ∧ FzL K (hid T H) vs ds
  | d => Fz K (hid T H) v d
def O.fds : List O → Option (List D)
  | [] => some []
  | .f d :: os => (O.fds os).map (d :: ·)
  | _ :: _ => none
def O.cd : O → Option D
  | .f d => some d
  | .lst ds => some (.lst ds)
  | .dic ks os => (O.fds os).map (.dic ks)
  | .ins _ _ _ => none
def Sl.cd : Sl → Option D
  | .f d => some d
  | .own o => o.cd
  | .vw o => o.cd
section
variable {K : PySem.W.Frag} {T : Addr → Prop} {H H' : Hp} {v : V} {d : D}
theorem Cz.of (h : Fz K (hid T H) v d) : Cz K T H v d := by
  cases h with
  | lst a b => exact ⟨_, _, rfl, ex_l hid_ex a, b⟩
  | dic a l b => exact ⟨_, _, rfl, ex_rd hid_ex a, l, b⟩
  | non => exact .non
  | bl b => exact .bl b
  | int i => exact .int i
  | str x => exact .str x
  | ty n => exact .ty n
  | cls C => exact .cls C
  | exc a b => exact .exc a b
  | tup a b => exact .tup a b
theorem OwL.fds : ∀ {os : List O} {vs : List V} {fp : List Addr} {ds : List D}, OwL K T H os vs fp → O.fds os = some ds → FzL K (hid T H) vs ds
  | [], _, _, _, h, e => by
    cases h
    cases e
    exact .nil
  | o :: os, _, _, _, h, e => by
    cases h with
    | cons a b _ =>
      cases o with
      | f d =>
        cases a with
        | f a =>
          cases e2 : O.fds os with
          | none => unfold O.fds at e; rw [e2] at e; cases e
          | some es =>
            unfold O.fds at e
            rw [e2] at e
            cases e
            exact .cons a (OwL.fds b e2)
      | _ => cases e
theorem Ow.cz {o : O} {fp : List Addr} (h : Ow K T H o v fp) (e : o.cd = some d) : Cz K T H v d := by
  cases h with
  | f a => cases e; exact .of a
  | lst a b c => cases e; exact ⟨_, _, rfl, SqL.of b, c⟩
  | dic a b l c n =>
    rename_i os _
    have e : (O.fds os).map (D.dic _) = some d := e
    cases e2 : O.fds os with
    | none => rw [e2] at e; cases e
    | some es =>
      rw [e2] at e
      cases e
      exact ⟨_, _, rfl, .inl b, l, c.fds e2⟩
  | ins => cases e
theorem SlR.cz {G : Gx} {s : Sl} {fp : List Addr} (h : SlR G T H s v fp) (e : s.cd = some d) : Cz G.K T H v d := by
  cases s with
  | f d => cases e; exact .of h.1
  | own o => exact Ow.cz h e
  | vw o => exact Ow.cz h e
theorem Cz.fz (h : Cz K T H v d) : Fz K H v d := by
  cases d with
  | lst ds => obtain ⟨a, vs, rfl, b, c⟩ := h; exact .lst b (c.ex hid_ex)
  | dic ks ds => obtain ⟨a, vs, rfl, b, l, c⟩ := h; exact .dic b l (c.ex hid_ex)
  | non => exact Fz.ex hid_ex h
  | bl _ => exact Fz.ex hid_ex h
  | int _ => exact Fz.ex hid_ex h
  | str _ => exact Fz.ex hid_ex h
  | ty _ => exact Fz.ex hid_ex h
  | tup _ => exact Fz.ex hid_ex h
end

/-! ### readings -/
abbrev WE := Env → (Sl → Env → Prop) → Prop
abbrev WP := Env → (Sl → Prop) → Prop
abbrev WT := Env → (Bool → Env → Prop) → Prop
/-- an argument: a value, or a slot that is handed on (owned, or to be looked at) -/
inductive Ag where
  | v (s : Sl) | slot (i : Nat) (own : Bool)
abbrev WA := Env → (List Ag → Env → Prop) → Prop
structure WEnds where
  nx : Env → Prop
  rt : Sl → Env → Prop
  bk : Env → Prop := fun _ => False
  ct : Env → Prop := fun _ => False
abbrev WS := WEnds → Env → Prop
structure WEnds.Le (D D' : WEnds) : Prop where
  nx : ∀ e, D.nx e → D'.nx e
  rt : ∀ s e, D.rt s e → D'.rt s e
  bk : ∀ e, D.bk e → D'.bk e
  ct : ∀ e, D.ct e → D'.ct e
def MonoE (w : WE) : Prop := ∀ env (Q Q' : Sl → Env → Prop), (∀ r e, Q r e → Q' r e) → w env Q → w env Q'
def MonoP (w : WP) : Prop := ∀ env (Q Q' : Sl → Prop), (∀ r, Q r → Q' r) → w env Q → w env Q'
def MonoT (w : WT) : Prop := ∀ env (Q Q' : Bool → Env → Prop), (∀ r e, Q r e → Q' r e) → w env Q → w env Q'
def MonoA (w : WA) : Prop := ∀ env (Q Q' : List Ag → Env → Prop), (∀ r e, Q r e → Q' r e) → w env Q → w env Q'
def MonoS (w : WS) : Prop := ∀ (D D' : WEnds) env, D.Le D' → w D env → w D' env

/-- a result: what is owned of it stands apart -/
structure Res (G : Gx) (T0 : Addr → Prop) (H0 : Hp) (env0 : Env) (F0 : Nat → List Addr) (T : Addr → Prop) (H : Hp) (env : Env) (F : Nat → List Addr) (r : Sl) (v : V) (fr : List Addr) : Prop where
  rel : SlR G T H r v fr
  dis : ∀ o, r = .own o → ∀ i, IsS env i → ∀ a ∈ fr, a ∉ F i
  from_ : ∀ o, r = .own o → ∀ a ∈ fr, OwnP env0 F0 a ∨ H0 a = none
def tW (G : Gx) (w : WE) : TE := fun σ H Q => ∃ T env F, RE G T H σ env F ∧ w env fun r env' => ∀ v T' H' F' fr, Att G σ T H env F T' H' env' F' → Res G T H env F T' H' env' F' r v fr → Q v H'
def tWP (G : Gx) (w : WP) : TE := fun σ H Q => ∃ T env F, RE G T H σ env F ∧ w env fun r => ∀ v H' fr, Ex H H' → RE G T H' σ env F → SlR G T H' r v fr → (∀ o, r ≠ .own o) → Q v H'
def tWT (G : Gx) (w : WT) : TT := fun σ H Q => ∃ T env F, RE G T H σ env F ∧ w env fun b env' => ∀ T' H' F', Att G σ T H env F T' H' env' F' → Q b H'
structure GE (X : Cx) (G : Gx) (e : Expr) (w : WE) : Prop where
  pe : PE X e (tW G w)
  mono : MonoE w
structure GP (X : Cx) (G : Gx) (e : Expr) (w : WP) : Prop where
  pe : PE X e (tWP G w)
  mono : MonoP w
structure GT (X : Cx) (G : Gx) (e : Expr) (w : WT) : Prop where
  pt : PT X e (tWT G w)
  mono : MonoT w
section
variable {X : Cx} {e : Expr}
theorem pe_imp {t t' : TE} (h : PE X e t) (i : ∀ σ H Q, t' σ H Q → t σ H Q) : PE X e t' := ⟨fun pins s σ H Q I q => h.run pins s σ H Q I (i σ H Q q)⟩
theorem pt_imp {t t' : TT} (h : PT X e t) (i : ∀ σ H Q, t' σ H Q → t σ H Q) : PT X e t' := ⟨fun pins s σ H Q I q => h.run pins s σ H Q I (i σ H Q q)⟩
theorem pa_imp {es : List Expr} {t t' : TA} (h : PA X es t) (i : ∀ σ H Q, t' σ H Q → t σ H Q) : PA X es t' := ⟨fun pos pins s σ H Q I q => h.run pos pins s σ H Q I (i σ H Q q)⟩
theorem ps_imp {st : Stmt} {t t' : TS} (h : PS X st t) (i : ∀ D σ H, t' D σ H → t D σ H) : PS X st t' := ⟨fun pins s σ H D I q => h.run pins s σ H D I (i D σ H q)⟩
theorem pss_imp {st : List Stmt} {t t' : TS} (h : PSs X st t) (i : ∀ D σ H, t' D σ H → t D σ H) : PSs X st t' := ⟨fun pins s σ H D I q => h.run pins s σ H D I (i D σ H q)⟩
end
section
variable {G : Gx} {T T' : Addr → Prop} {H H' : Hp} {σ : L2.St} {env : Env} {F : Nat → List Addr} {s : Sl} {v : V} {fr : List Addr}
theorem ex_dom (e : Ex H H') : ∀ a, H a ≠ none → H' a ≠ none := fun a h => by
  cases q : H a with
  | none => exact absurd q h
  | some o => rw [e a o q]; exact nofun
theorem RE.ex (r : RE G T H σ env F) (e : Ex H H') : RE G T H' σ env F :=
  r.chg (P := fun _ => False) ⟨fun a o h _ => e a o h, fun _ h _ => h, fun _ h => .inl h, fun a h => ex_dom e a (r.trk a h), ex_dom e⟩ (fun _ h => h.elim) (fun _ h => h.elim) fun _ _ _ _ h => h
theorem Att.ex (r : RE G T H σ env F) (e : Ex H H') : Att G σ T H env F T H' env F :=
  ⟨⟨fun a o h _ => e a o h, fun _ h _ => h, fun _ h => .inl h, fun a h => ex_dom e a (r.trk a h), ex_dom e⟩, r.ex e, fun _ h => .inl h, fun _ _ h => ⟨h, rfl⟩⟩
theorem hid_mono (e : Ex H H') : Ex (hid T H) (hid T H') := fun a o h => hid_of (e a o (hid_some h).1) (hid_some h).2
theorem SlR.ex (h : SlR G T H s v fr) (e : Ex H H') : SlR G T H' s v fr := h.step (hid_mono e) (fun a _ u q => e a u q) fun _ _ q => q
/-- a value is kept while the frame goes on -/
theorem Fz.att {T0 : Addr → Prop} {H0 : Hp} {env0 env1 : Env} {F0 F1 : Nat → List Addr} {d : D} (r : RE G T0 H0 σ env0 F0) (a : Att G σ T0 H0 env0 F0 T H env1 F1) (h : Fz G.K (hid T0 H0) v d) : Fz G.K (hid T H) v d := h.ex (a.chg.hid r.sub)
theorem GE.of_pure {X : Cx} {e : Expr} {w : WP} (h : GP X G e w) : GE X G e (fun env Q => w env fun r => Q r env) := by
  refine ⟨pe_imp h.pe fun σ H Q ⟨T, env, F, r, q⟩ => ⟨T, env, F, r, h.mono env _ _ (fun s q v H' fr e r' rel no => ?_) q⟩, fun env Q Q' i q => h.mono env _ _ (fun s z => i s env z) q⟩
  exact q v T H' F fr (Att.ex r e) ⟨rel, fun o z => absurd z (no o), fun o z => absurd z (no o)⟩
end

/-! ### names, constants -/
def wVar (i : Nat) : WP := fun env Q => match env[i]? with
  | some (some (.f d)) => Q (.f d)
  | some (some (.own o)) => Q (.vw o)
  | some (some (.vw o)) => Q (.vw o)
  | _ => False
def wC (d : D) : WP := fun _ Q => Q (.f d)
section
variable {X : Cx} {G : Gx} {e : Expr}
theorem gp_var {i : Nat} (h : PE X e (tVar i)) : GP X G e (wVar i) := by
  refine ⟨pe_imp h fun σ H Q ⟨T, env, F, r, q⟩ => ?_, fun env Q Q' i q => ?_⟩
  · unfold wVar at q
    split at q
    · rename_i d hd
      obtain ⟨v, h1, h2⟩ := r.slot i _ hd
      exact ⟨v, h1, q v H _ (Ex.refl H) r h2 nofun⟩
    · rename_i o ho
      obtain ⟨v, h1, h2⟩ := r.slot i _ ho
      exact ⟨v, h1, q v H _ (Ex.refl H) r h2 nofun⟩
    · rename_i o ho
      obtain ⟨v, h1, h2⟩ := r.slot i _ ho
      exact ⟨v, h1, q v H _ (Ex.refl H) r h2 nofun⟩
    · exact q.elim
  · unfold wVar at q ⊢
    split <;> simp_all
theorem gp_c {d : D} {v : V} (h : PE X e (tC v)) (r : ∀ K H, Fz K H v d) : GP X G e (wC d) := by
  refine ⟨pe_imp h fun σ H Q ⟨T, env, F, r', q⟩ => ?_, fun env Q Q' i q => i _ q⟩
  exact q v H [] (Ex.refl H) r' ⟨r _ _, rfl⟩ nofun
theorem gp_int {i : Int} {j pos} : GP X G (.Constant (.int i) j pos) (wC (.int i)) := gp_c pe_int fun _ _ => .int i
theorem gp_bl {b j pos} : GP X G (.Constant (.bool b) j pos) (wC (.bl b)) := gp_c pe_bl fun _ _ => .bl b
theorem gp_non {j pos} : GP X G (.Constant .none j pos) (wC .non) := gp_c pe_non fun _ _ => .non
theorem gp_str {x j pos} : GP X G (.Constant (.str x) j pos) (wC (.str x)) := gp_c pe_str fun _ _ => .str x
/-- a module's name -/
theorem gp_glob {x : Str} {d : D} {v : V} {pos : Pos} (h : PE X (.Name x pos) (tC v)) (r : ∀ H, Fz G.K H v d) : GP X G (.Name x pos) (wC d) := by
  refine ⟨pe_imp h fun σ H Q ⟨T, env, F, r', q⟩ => ?_, fun env Q Q' i q => i _ q⟩
  exact q v H [] (Ex.refl H) r' ⟨r _, rfl⟩ nofun

/-! ### two values -/
abbrev Op2 := D → D → (D → Prop) → Prop
def MonoO (o : Op2) : Prop := ∀ a b (Q Q' : D → Prop), (∀ d, Q d → Q' d) → o a b Q → o a b Q'
/-- the reading of an operation of two values -/
def rO (G : Gx) (o : Op2) : R2 := fun x y H Q => ∃ T d1 d2, Trk T H ∧ Cz G.K T H x d1 ∧ Cz G.K T H y d2 ∧ o d1 d2 fun d => ∀ v H', Ex H H' → Fz G.K (hid T H') v d → Q v H'
structure OpX (X : Cx) (G : Gx) (f : Value → Value → Sem Value) (o : Op2) : Prop where
  ok : OpR X f (rO G o)
  mono : MonoO o
def wBin (o : Op2) (w1 w2 : WE) : WE := fun env Q => w1 env fun r1 e1 => ∃ d1, r1 = .f d1 ∧ w2 e1 fun r2 e2 => ∃ d2, r2.cd = some d2 ∧ o d1 d2 fun d => Q (.f d) e2
def wBinP (o : Op2) (w1 w2 : WP) : WP := fun env Q => w1 env fun r1 => ∃ d1, r1.cd = some d1 ∧ w2 env fun r2 => ∃ d2, r2.cd = some d2 ∧ o d1 d2 fun d => Q (.f d)
theorem Cz.ex {K : PySem.W.Frag} {T : Addr → Prop} {H H' : Hp} {v : V} {d : D} (h : Cz K T H v d) (e : Ex H H') : Cz K T H' v d := by
  cases d with
  | lst ds => obtain ⟨a, vs, rfl, b, c⟩ := h; exact ⟨a, vs, rfl, ex_l e b, c.ex (hid_mono e)⟩
  | dic ks ds => obtain ⟨a, vs, rfl, b, l, c⟩ := h; exact ⟨a, vs, rfl, ex_rd e b, l, c.ex (hid_mono e)⟩
  | non => exact Fz.ex (hid_mono e) h
  | bl _ => exact Fz.ex (hid_mono e) h
  | int _ => exact Fz.ex (hid_mono e) h
  | str _ => exact Fz.ex (hid_mono e) h
  | ty _ => exact Fz.ex (hid_mono e) h
  | tup _ => exact Fz.ex (hid_mono e) h
variable {a b : Expr} {w1 w2 : WE} {v1 v2 : WP} {o : Op2} {f : Value → Value → Sem Value}
theorem binW (ma : MonoE w1) (mb : MonoE w2) (mo : MonoO o) {σ : L2.St} {H : Hp} {Q : VK} (h : tW G (wBin o w1 w2) σ H Q) : tOp (rO G o) (tW G w1) (tW G w2) σ H Q := by
  obtain ⟨T, env, F, r, q⟩ := h
  refine ⟨T, env, F, r, ma env _ _ (fun r1 e1 ⟨d1, e, q⟩ v1 T1 H1 F1 f1 a1 z1 => ?_) q⟩
  subst e
  refine ⟨T1, e1, F1, a1.re, mb e1 _ _ (fun r2 e2 ⟨d2, hd, q⟩ v2 T2 H2 F2 f2 a2 z2 => ?_) q⟩
  refine ⟨T2, d1, d2, a2.re.trk, Cz.of (Fz.att a1.re a2 z1.rel.1), z2.rel.cz hd, mo _ _ _ _ (fun d q v H3 e3 fz => ?_) q⟩
  exact q v T2 H3 F2 [] ((a1.trans r.trk a2).trans r.trk (Att.ex a2.re e3)) ⟨⟨fz, rfl⟩, nofun, nofun⟩
theorem monoBin (ma : MonoE w1) (mb : MonoE w2) (mo : MonoO o) : MonoE (wBin o w1 w2) := fun env Q Q' i q =>
  ma env _ _ (fun r1 e1 ⟨d1, e, q⟩ => ⟨d1, e, mb e1 _ _ (fun r2 e2 ⟨d2, hd, q⟩ => ⟨d2, hd, mo _ _ _ _ (fun d q => i _ _ q) q⟩) q⟩) q
theorem binP (ma : MonoP v1) (mb : MonoP v2) (mo : MonoO o) {σ : L2.St} {H : Hp} {Q : VK} (h : tWP G (wBinP o v1 v2) σ H Q) : tOp (rO G o) (tWP G v1) (tWP G v2) σ H Q := by
  obtain ⟨T, env, F, r, q⟩ := h
  refine ⟨T, env, F, r, ma env _ _ (fun r1 ⟨d1, e, q⟩ v1 H1 f1 x1 r1' z1 n1 => ?_) q⟩
  refine ⟨T, env, F, r1', mb env _ _ (fun r2 ⟨d2, hd, q⟩ v2 H2 f2 x2 r2' z2 n2 => ?_) q⟩
  refine ⟨T, d1, d2, r2'.trk, (z1.cz e).ex x2, z2.cz hd, mo _ _ _ _ (fun d q v H3 e3 fz => ?_) q⟩
  exact q v H3 [] (x1.trans (x2.trans e3)) (r2'.ex e3) ⟨fz, rfl⟩ nofun
theorem monoBinP (ma : MonoP v1) (mb : MonoP v2) (mo : MonoO o) : MonoP (wBinP o v1 v2) := fun env Q Q' i q =>
  ma env _ _ (fun r1 ⟨d1, e, q⟩ => ⟨d1, e, mb env _ _ (fun r2 ⟨d2, hd, q⟩ => ⟨d2, hd, mo _ _ _ _ (fun d q => i _ q) q⟩) q⟩) q
theorem ge_op {op : Operator} {pos : Pos} (ho : OpX X G (binaryOp op) o) (ha : GE X G a w1) (hb : GE X G b w2) : GE X G (.BinOp a op b pos) (wBin o w1 w2) :=
  ⟨pe_imp (pe_op ho.ok ha.pe hb.pe) fun _ _ _ h => binW ha.mono hb.mono ho.mono h, monoBin ha.mono hb.mono ho.mono⟩
theorem gp_op {op : Operator} {pos : Pos} (ho : OpX X G (binaryOp op) o) (ha : GP X G a v1) (hb : GP X G b v2) : GP X G (.BinOp a op b pos) (wBinP o v1 v2) :=
  ⟨pe_imp (pe_op ho.ok ha.pe hb.pe) fun _ _ _ h => binP ha.mono hb.mono ho.mono h, monoBinP ha.mono hb.mono ho.mono⟩
theorem ge_cmp {op : CmpOp} {pos : Pos} (ho : OpX X G (compareOp op) o) (ha : GE X G a w1) (hb : GE X G b w2) (hm : behindInMarks op b = false) : GE X G (.Compare a [op] [b] pos) (wBin o w1 w2) :=
  ⟨pe_imp (pe_cmpR ho.ok ha.pe hb.pe hm) fun _ _ _ h => binW ha.mono hb.mono ho.mono h, monoBin ha.mono hb.mono ho.mono⟩
theorem gp_cmp {op : CmpOp} {pos : Pos} (ho : OpX X G (compareOp op) o) (ha : GP X G a v1) (hb : GP X G b v2) (hm : behindInMarks op b = false) : GP X G (.Compare a [op] [b] pos) (wBinP o v1 v2) :=
  ⟨pe_imp (pe_cmpR ho.ok ha.pe hb.pe hm) fun _ _ _ h => binP ha.mono hb.mono ho.mono h, monoBinP ha.mono hb.mono ho.mono⟩
/-- x[i] by values -/
structure IxX (X : Cx) (G : Gx) (o : Op2) : Prop where
  ok : IxR X (rO G o)
  mono : MonoO o
theorem ge_ix {pos : Pos} (ho : IxX X G o) (ha : GE X G a w1) (hb : GE X G b w2) (hs : PlainIx b) : GE X G (.Subscript a b pos) (wBin o w1 w2) :=
  ⟨pe_imp (pe_ix ho.ok ha.pe hb.pe hs) fun _ _ _ h => binW ha.mono hb.mono ho.mono h, monoBin ha.mono hb.mono ho.mono⟩
theorem gp_ix {pos : Pos} (ho : IxX X G o) (ha : GP X G a v1) (hb : GP X G b v2) (hs : PlainIx b) : GP X G (.Subscript a b pos) (wBinP o v1 v2) :=
  ⟨pe_imp (pe_ix ho.ok ha.pe hb.pe hs) fun _ _ _ h => binP ha.mono hb.mono ho.mono h, monoBinP ha.mono hb.mono ho.mono⟩
end
end Fx

namespace Fx
open PySem PySem.Spec PyProof.Rows L2 Evl Lk

/-! ### tests -/
def dTru : D → (Bool → Prop) → Prop
  | .non, Q => Q false
  | .bl b, Q => Q b
  | .int i, Q => Q (i != 0)
  | .str x, Q => x.length ≤ sizeLine ∧ Q ((x.length : Int) != 0)
  | .lst ds, Q => Q (!ds.isEmpty)
  | .tup ds, Q => Q (!ds.isEmpty)
  | _, _ => False
def wTru (w : WE) : WT := fun env Q => w env fun r e => ∃ d, r.cd = some d ∧ dTru d fun b => Q b e
def wTB (w : WE) : WT := fun env Q => w env fun r e => ∃ b, r = .f (.bl b) ∧ Q b e
def wAnd (t u : WT) : WT := fun env Q => t env fun c e => if c = true then u e Q else Q false e
def wOr (t u : WT) : WT := fun env Q => t env fun c e => if c = true then Q true e else u e Q
def wNot (t : WT) : WT := fun env Q => t env fun c e => Q (!c) e
def wAndV (t u : WE) : WE := fun env Q => t env fun r e => ∃ b, r = .f (.bl b) ∧ if b = true then u e Q else Q (.f (.bl false)) e
def wOrV (t u : WE) : WE := fun env Q => t env fun r e => ∃ b, r = .f (.bl b) ∧ if b = true then Q (.f (.bl true)) e else u e Q
def wNotV (t : WE) : WE := fun env Q => t env fun r e => ∃ b, r = .f (.bl b) ∧ Q (.f (.bl (!b))) e
def wIf (t : WT) (u v : WE) : WE := fun env Q => t env fun c e => if c = true then u e Q else v e Q
section
variable {X : Cx} {G : Gx} {a b c : Expr} {rest : List Expr} {pos : Pos} {t u : WT} {w1 w2 w3 : WE}
theorem FzL.emp {K : PySem.W.Frag} {H : Hp} {vs : List V} {ds : List D} (h : FzL K H vs ds) : (!ds.isEmpty) = (!vs.isEmpty) := by
  cases h <;> rfl
theorem tru_of {K : PySem.W.Frag} {T : Addr → Prop} {H : Hp} {v : V} {d : D} {Q : Bool → Prop} (h : Cz K T H v d) (q : dTru d Q) : ∃ k, TruV K v H k ∧ Q k := by
  cases d with
  | non => cases h; exact ⟨false, rfl, q⟩
  | bl b => cases h; exact ⟨b, rfl, q⟩
  | int i => cases h; exact ⟨_, rfl, q⟩
  | str x => cases h; exact ⟨_, ⟨q.1, rfl⟩, q.2⟩
  | ty n => exact q.elim
  | dic ks ds => exact q.elim
  | lst ds =>
    obtain ⟨a, vs, rfl, h1, h2⟩ := h
    have q' : Q (!ds.isEmpty) := q
    rw [h2.emp] at q'
    exact ⟨_, .inl ⟨vs, h1, rfl⟩, q'⟩
  | tup ds =>
    cases h with
    | tup h1 h2 =>
      have q' : Q (!ds.isEmpty) := q
      rw [h2.emp] at q'
      exact ⟨_, .inr (.inl ⟨_, ex_t hid_ex h1, rfl⟩), q'⟩
theorem dTru_mono {d : D} {Q Q' : Bool → Prop} (i : ∀ b, Q b → Q' b) (q : dTru d Q) : dTru d Q' := by
  cases d <;> first | exact i _ q | exact q.elim | exact ⟨q.1, i _ q.2⟩
theorem gt_tru (h : GE X G a w1) (hK : X.K = G.K := by rfl) (he : ∀ whole, isTrue a X.env whole = (do let v ← whole; standAt a.pos; holding [v] (truthy v)) := by intro _; rfl) : GT X G a (wTru w1) := by
  refine ⟨pt_imp (pt_truth h.pe he) fun σ H Q ⟨T, env, F, r, q⟩ => ⟨T, env, F, r, h.mono env _ _ (fun s e ⟨d, hd, q⟩ v T' H' F' fr a z => ?_) q⟩, fun env Q Q' i q => h.mono env _ _ (fun s e ⟨d, hd, q⟩ => ⟨d, hd, dTru_mono (fun b z => i b e z) q⟩) q⟩
  obtain ⟨k, h1, h2⟩ := tru_of (z.rel.cz hd) q
  exact ⟨k, hK ▸ h1, h2 T' H' F' a⟩
theorem gt_b (h : GE X G a w1) (he : ∀ whole, isTrue a X.env whole = (do let v ← whole; standAt a.pos; holding [v] (truthy v)) := by intro _; rfl) : GT X G a (wTB w1) := by
  refine ⟨pt_imp (pt_val h.pe he) fun σ H Q ⟨T, env, F, r, q⟩ => ⟨T, env, F, r, h.mono env _ _ (fun s e ⟨b, hb, q⟩ v T' H' F' fr a z => ?_) q⟩, fun env Q Q' i q => h.mono env _ _ (fun s e ⟨b, hb, q⟩ => ⟨b, hb, i _ _ q⟩) q⟩
  subst hb
  obtain ⟨h1, _⟩ := z.rel
  cases h1
  exact ⟨_, rfl, q T' H' F' a⟩
/-- a comparison as a test -/
theorem gt_cmp {op : CmpOp} {o : Op2} (ho : OpX X G (compareOp op) o) (ha : GE X G a w1) (hb : GE X G b w2) (hm : behindInMarks op b = false) : GT X G (.Compare a [op] [b] pos) (wTB (wBin o w1 w2)) := by
  have m := monoBin ha.mono hb.mono ho.mono
  refine ⟨pt_imp (pt_cmpR ho.ok ha.pe hb.pe hm) fun σ H Q ⟨T, env, F, r, q⟩ => ?_, fun env Q Q' i q => m env _ _ (fun s e ⟨b, hb, q⟩ => ⟨b, hb, i _ _ q⟩) q⟩
  refine binW ha.mono hb.mono ho.mono ⟨T, env, F, r, m env _ _ (fun s e ⟨b, hb, q⟩ v T' H' F' fr a z => ?_) q⟩
  subst hb
  obtain ⟨h1, _⟩ := z.rel
  cases h1
  exact ⟨_, rfl, q T' H' F' a⟩
theorem gt_cmpP {op : CmpOp} {o : Op2} {v1 v2 : WP} (ho : OpX X G (compareOp op) o) (ha : GP X G a v1) (hb : GP X G b v2) (hm : behindInMarks op b = false) : GT X G (.Compare a [op] [b] pos) (fun env Q => wBinP o v1 v2 env fun r => ∃ c, r = .f (.bl c) ∧ Q c env) := by
  have m := monoBinP ha.mono hb.mono ho.mono
  refine ⟨pt_imp (pt_cmpR ho.ok ha.pe hb.pe hm) fun σ H Q ⟨T, env, F, r, q⟩ => ?_, fun env Q Q' i q => m env _ _ (fun s ⟨b, hb, q⟩ => ⟨b, hb, i _ _ q⟩) q⟩
  refine binP ha.mono hb.mono ho.mono ⟨T, env, F, r, m env _ _ (fun s ⟨c, hc, q⟩ v H' fr e r' rel no => ?_) q⟩
  subst hc
  obtain ⟨h1, _⟩ := rel
  cases h1
  exact ⟨_, rfl, q T H' F (Att.ex r e)⟩
structure GW (X : Cx) (G : Gx) (e : Expr) (w : WT) : Prop where
  pw : PW X e (tWT G w)
  mono : MonoT w
theorem pw_imp {e : Expr} {t t' : TT} (h : PW X e t) (i : ∀ σ H Q, t' σ H Q → t σ H Q) : PW X e t' := ⟨fun wh pins s σ H Q I q => h.run wh pins s σ H Q I (i σ H Q q)⟩
theorem gw_and1 (h : GT X G a t) : GW X G (.BoolOp .And [a] pos) t := ⟨pw_and1 h.pt, h.mono⟩
theorem gw_or1 (h : GT X G a t) : GW X G (.BoolOp .Or [a] pos) t := ⟨pw_or1 h.pt, h.mono⟩
theorem GW.gt {e : Expr} (h : GW X G e t) : GT X G e t := ⟨h.pw.pt, h.mono⟩
theorem gw_and (ha : GT X G a t) (hb : GW X G (.BoolOp .And (b :: rest) pos) u) : GW X G (.BoolOp .And (a :: b :: rest) pos) (wAnd t u) := by
  refine ⟨pw_imp (pw_and ha.pt hb.pw) fun σ H Q ⟨T, env, F, r, q⟩ => ⟨T, env, F, r, ha.mono env _ _ (fun c e q T' H' F' a => ?_) q⟩, fun env Q Q' i q => ha.mono env _ _ (fun c e q => ?_) q⟩
  · cases c with
    | true => exact ite_tt ⟨T', e, F', a.re, hb.mono e _ _ (fun b e2 q T2 H2 F2 a2 => q T2 H2 F2 (a.trans r.trk a2)) q⟩
    | false => exact ite_ff (q T' H' F' a)
  · cases c with
    | true => exact hb.mono e _ _ i q
    | false => exact i _ _ q
theorem gw_or (ha : GT X G a t) (hb : GW X G (.BoolOp .Or (b :: rest) pos) u) : GW X G (.BoolOp .Or (a :: b :: rest) pos) (wOr t u) := by
  refine ⟨pw_imp (pw_or ha.pt hb.pw) fun σ H Q ⟨T, env, F, r, q⟩ => ⟨T, env, F, r, ha.mono env _ _ (fun c e q T' H' F' a => ?_) q⟩, fun env Q Q' i q => ha.mono env _ _ (fun c e q => ?_) q⟩
  · cases c with
    | false => exact ite_ff ⟨T', e, F', a.re, hb.mono e _ _ (fun b e2 q T2 H2 F2 a2 => q T2 H2 F2 (a.trans r.trk a2)) q⟩
    | true => exact ite_tt (q T' H' F' a)
  · cases c with
    | false => exact hb.mono e _ _ i q
    | true => exact i _ _ q
theorem gt_not (ha : GT X G a t) : GT X G (.UnaryOp .Not a pos) (wNot t) :=
  ⟨pt_imp (pt_not ha.pt) fun σ H Q ⟨T, env, F, r, q⟩ => ⟨T, env, F, r, q⟩, fun env Q Q' i q => ha.mono env _ _ (fun c e q => i _ _ q) q⟩
theorem ge_one {op} (h : GE X G a w1) : GE X G (.BoolOp op [a] pos) w1 := ⟨pe_one h.pe, h.mono⟩
theorem bl_of {T : Addr → Prop} {H : Hp} {v : V} {k : Bool} {fr : List Addr} (h : SlR G T H (.f (.bl k)) v fr) : v = .bl k := by
  obtain ⟨h1, _⟩ := h
  cases h1
  rfl
theorem res_f {T0 T : Addr → Prop} {H0 H : Hp} {env0 env : Env} {F0 F : Nat → List Addr} {d : D} {v : V} (h : Fz G.K (hid T H) v d) : Res G T0 H0 env0 F0 T H env F (.f d) v [] := ⟨⟨h, rfl⟩, nofun, nofun⟩
theorem res_trans {T0 T1 T2 : Addr → Prop} {H0 H1 H2 : Hp} {σ : L2.St} {env0 env1 env2 : Env} {F0 F1 F2 : Nat → List Addr} {r : Sl} {v : V} {fr : List Addr} (t : Trk T0 H0) (a : Att G σ T0 H0 env0 F0 T1 H1 env1 F1) (z : Res G T1 H1 env1 F1 T2 H2 env2 F2 r v fr) : Res G T0 H0 env0 F0 T2 H2 env2 F2 r v fr :=
  ⟨z.rel, z.dis, fun o e x hx => by
    rcases z.from_ o e x hx with q | q
    · exact a.own x q
    · refine .inr ?_
      cases e : H0 x with
      | none => rfl
      | some o => exact absurd q (a.chg.dom x (by rw [e]; exact nofun))⟩
theorem ge_and (ha : GE X G a w1) (hb : GE X G (.BoolOp .And (b :: rest) pos) w2) : GE X G (.BoolOp .And (a :: b :: rest) pos) (wAndV w1 w2) := by
  refine ⟨pe_imp (pe_and ha.pe hb.pe) fun σ H Q ⟨T, env, F, r, q⟩ => ⟨T, env, F, r, ha.mono env _ _ (fun s e ⟨k, hk, q⟩ v T' H' F' fr a z => ?_) q⟩, fun env Q Q' i q => ha.mono env _ _ (fun s e ⟨k, hk, q⟩ => ⟨k, hk, ?_⟩) q⟩
  · subst hk
    refine ⟨k, bl_of z.rel, ?_⟩
    cases k with
    | true => exact ite_tt ⟨T', e, F', a.re, hb.mono e _ _ (fun b e2 q v2 T2 H2 F2 f2 a2 z2 => q v2 T2 H2 F2 f2 (a.trans r.trk a2) (res_trans r.trk a z2)) q⟩
    | false => exact ite_ff (q _ T' H' F' [] a (res_f (.bl false)))
  · cases k with
    | true => exact hb.mono e _ _ i q
    | false => exact i _ _ q
theorem ge_or (ha : GE X G a w1) (hb : GE X G (.BoolOp .Or (b :: rest) pos) w2) : GE X G (.BoolOp .Or (a :: b :: rest) pos) (wOrV w1 w2) := by
  refine ⟨pe_imp (pe_or ha.pe hb.pe) fun σ H Q ⟨T, env, F, r, q⟩ => ⟨T, env, F, r, ha.mono env _ _ (fun s e ⟨k, hk, q⟩ v T' H' F' fr a z => ?_) q⟩, fun env Q Q' i q => ha.mono env _ _ (fun s e ⟨k, hk, q⟩ => ⟨k, hk, ?_⟩) q⟩
  · subst hk
    refine ⟨k, bl_of z.rel, ?_⟩
    cases k with
    | false => exact ite_ff ⟨T', e, F', a.re, hb.mono e _ _ (fun b e2 q v2 T2 H2 F2 f2 a2 z2 => q v2 T2 H2 F2 f2 (a.trans r.trk a2) (res_trans r.trk a z2)) q⟩
    | true => exact ite_tt (q _ T' H' F' [] a (res_f (.bl true)))
  · cases k with
    | false => exact hb.mono e _ _ i q
    | true => exact i _ _ q
theorem ge_not (ha : GE X G a w1) : GE X G (.UnaryOp .Not a pos) (wNotV w1) := by
  refine ⟨pe_imp (pe_not ha.pe) fun σ H Q ⟨T, env, F, r, q⟩ => ⟨T, env, F, r, ha.mono env _ _ (fun s e ⟨k, hk, q⟩ v T' H' F' fr a z => ?_) q⟩, fun env Q Q' i q => ha.mono env _ _ (fun s e ⟨k, hk, q⟩ => ⟨k, hk, i _ _ q⟩) q⟩
  subst hk
  exact ⟨k, bl_of z.rel, q _ T' H' F' [] a (res_f (.bl _))⟩
theorem ge_if (ht : GT X G c t) (ha : GE X G a w1) (hb : GE X G b w2) : GE X G (.IfExp c a b pos) (wIf t w1 w2) := by
  refine ⟨pe_imp (pe_ifExp ht.pt ha.pe hb.pe) fun σ H Q ⟨T, env, F, r, q⟩ => ⟨T, env, F, r, ht.mono env _ _ (fun k e q T' H' F' a => ?_) q⟩, fun env Q Q' i q => ht.mono env _ _ (fun k e q => ?_) q⟩
  · cases k with
    | true => exact ite_tt ⟨T', e, F', a.re, ha.mono e _ _ (fun b e2 q v2 T2 H2 F2 f2 a2 z2 => q v2 T2 H2 F2 f2 (a.trans r.trk a2) (res_trans r.trk a z2)) q⟩
    | false => exact ite_ff ⟨T', e, F', a.re, hb.mono e _ _ (fun b e2 q v2 T2 H2 F2 f2 a2 z2 => q v2 T2 H2 F2 f2 (a.trans r.trk a2) (res_trans r.trk a z2)) q⟩
  · cases k with
    | true => exact ha.mono e _ _ i q
    | false => exact hb.mono e _ _ i q
/-! a < b < c -/
def wChain (o1 o2 : Op2) (w1 w2 w3 : WE) : WE := fun env Q => w1 env fun r1 e1 => ∃ d1, r1 = .f d1 ∧ w2 e1 fun r2 e2 => ∃ d2, r2 = .f d2 ∧ o1 d1 d2 fun d => ∃ k, d = .bl k ∧ if k = true then w3 e2 fun r3 e3 => ∃ d3, r3.cd = some d3 ∧ o2 d2 d3 fun d => Q (.f d) e3 else Q (.f (.bl false)) e2
theorem chainW {o1 o2 : Op2} (ma : MonoE w1) (mb : MonoE w2) (mc : MonoE w3) (m1 : MonoO o1) (m2 : MonoO o2) {σ : L2.St} {H : Hp} {Q : VK} (h : tW G (wChain o1 o2 w1 w2 w3) σ H Q) : tChain (rO G o1) (rO G o2) (tW G w1) (tW G w2) (tW G w3) σ H Q := by
  obtain ⟨T, env, F, r, q⟩ := h
  refine ⟨T, env, F, r, ma env _ _ (fun r1 e1 ⟨d1, e, q⟩ x T1 H1 F1 f1 a1 z1 => ?_) q⟩
  subst e
  refine ⟨T1, e1, F1, a1.re, mb e1 _ _ (fun r2 e2 ⟨d2, e, q⟩ y T2 H2 F2 f2 a2 z2 => ?_) q⟩
  subst e
  refine ⟨T2, d1, d2, a2.re.trk, Cz.of (Fz.att a1.re a2 z1.rel.1), Cz.of z2.rel.1, m1 _ _ _ _ (fun d ⟨k, e, q⟩ v H3 e3 fz => ?_) q⟩
  subst e
  cases fz
  refine ⟨k, rfl, ?_⟩
  have a3 := (a1.trans r.trk a2).trans r.trk (Att.ex a2.re e3)
  cases k with
  | false => exact ite_ff (q _ T2 H3 F2 [] a3 (res_f (.bl false)))
  | true =>
    refine ite_tt ⟨T2, e2, F2, a3.re, mc e2 _ _ (fun r3 e4 ⟨d3, e, q⟩ z T4 H4 F4 f4 a4 z4 => ?_) q⟩
    refine ⟨T4, d2, d3, a4.re.trk, Cz.of (Fz.att a3.re a4 (z2.rel.1.ex (hid_mono e3))), z4.rel.cz e, m2 _ _ _ _ (fun d q v H5 e5 fz => ?_) q⟩
    exact q v T4 H5 F4 [] ((a3.trans r.trk a4).trans r.trk (Att.ex a4.re e5)) (res_f fz)
theorem monoChain {o1 o2 : Op2} (ma : MonoE w1) (mb : MonoE w2) (mc : MonoE w3) (m1 : MonoO o1) (m2 : MonoO o2) : MonoE (wChain o1 o2 w1 w2 w3) := fun env Q Q' i q =>
  ma env _ _ (fun r1 e1 ⟨d1, e, q⟩ => ⟨d1, e, mb e1 _ _ (fun r2 e2 ⟨d2, e, q⟩ => ⟨d2, e, m1 _ _ _ _ (fun d ⟨k, e, q⟩ => ⟨k, e, by
    cases k with
    | false => exact i _ _ q
    | true => exact mc _ _ _ (fun r3 e3 ⟨d3, e, q⟩ => ⟨d3, e, m2 _ _ _ _ (fun d q => i _ _ q) q⟩) q⟩) q⟩) q⟩) q
theorem ge_chain {op op' : CmpOp} {o1 o2 : Op2} (h1 : OpX X G (compareOp op) o1) (h2 : OpX X G (compareOp op') o2) (ha : GE X G a w1) (hb : GE X G b w2) (hc : GE X G c w3)
    (hm : lastMarks [op, op'] [b, c] = false := by with_unfolding_all rfl) : GE X G (.Compare a [op, op'] [b, c] pos) (wChain o1 o2 w1 w2 w3) :=
  ⟨pe_imp (pe_chain h1.ok h2.ok ha.pe hb.pe hc.pe hm) fun _ _ _ h => chainW ha.mono hb.mono hc.mono h1.mono h2.mono h, monoChain ha.mono hb.mono hc.mono h1.mono h2.mono⟩
theorem gt_chain {op op' : CmpOp} {o1 o2 : Op2} (h1 : OpX X G (compareOp op) o1) (h2 : OpX X G (compareOp op') o2) (ha : GE X G a w1) (hb : GE X G b w2) (hc : GE X G c w3)
    (hm : lastMarks [op, op'] [b, c] = false := by with_unfolding_all rfl) : GT X G (.Compare a [op, op'] [b, c] pos) (wTB (wChain o1 o2 w1 w2 w3)) := by
  have m := monoChain ha.mono hb.mono hc.mono h1.mono h2.mono
  refine ⟨pt_imp (pt_chain h1.ok h2.ok ha.pe hb.pe hc.pe hm) fun σ H Q ⟨T, env, F, r, q⟩ => ?_, fun env Q Q' i q => m env _ _ (fun s e ⟨b, hb, q⟩ => ⟨b, hb, i _ _ q⟩) q⟩
  refine chainW ha.mono hb.mono hc.mono h1.mono h2.mono ⟨T, env, F, r, m env _ _ (fun s e ⟨b, hb, q⟩ v T' H' F' fr a z => ?_) q⟩
  subst hb
  exact ⟨_, bl_of z.rel, q T' H' F' a⟩
/-! one value -/
abbrev Op1 := D → (D → Prop) → Prop
def MonoU (o : Op1) : Prop := ∀ a (Q Q' : D → Prop), (∀ d, Q d → Q' d) → o a Q → o a Q'
def rU1 (G : Gx) (o : Op1) : V → Hp → VK → Prop := fun x H Q => ∃ T d1, Trk T H ∧ Cz G.K T H x d1 ∧ o d1 fun d => ∀ v H', Ex H H' → Fz G.K (hid T H') v d → Q v H'
structure UnX (X : Cx) (G : Gx) (f : Value → Sem Value) (o : Op1) : Prop where
  ok : UnR X f (rU1 G o)
  mono : MonoU o
def wUn (o : Op1) (w : WE) : WE := fun env Q => w env fun r e => ∃ d, r.cd = some d ∧ o d fun d' => Q (.f d') e
theorem unW {o : Op1} (ma : MonoE w1) (mo : MonoU o) {σ : L2.St} {H : Hp} {Q : VK} (h : tW G (wUn o w1) σ H Q) : tUn (rU1 G o) (tW G w1) σ H Q := by
  obtain ⟨T, env, F, r, q⟩ := h
  refine ⟨T, env, F, r, ma env _ _ (fun r1 e1 ⟨d1, e, q⟩ x T1 H1 F1 f1 a1 z1 => ?_) q⟩
  refine ⟨T1, d1, a1.re.trk, z1.rel.cz e, mo _ _ _ (fun d q v H3 e3 fz => ?_) q⟩
  exact q v T1 H3 F1 [] (a1.trans r.trk (Att.ex a1.re e3)) (res_f fz)
theorem monoUn {o : Op1} (ma : MonoE w1) (mo : MonoU o) : MonoE (wUn o w1) := fun env Q Q' i q => ma env _ _ (fun r e ⟨d, h, q⟩ => ⟨d, h, mo _ _ _ (fun d q => i _ _ q) q⟩) q
theorem ge_un {op : UnaryOp} {o : Op1} (ho : UnX X G (unaryOp op) o) (ha : GE X G a w1) : GE X G (.UnaryOp op a pos) (wUn o w1) :=
  ⟨pe_imp (pe_un ho.ok ha.pe) fun _ _ _ h => unW ha.mono ho.mono h, monoUn ha.mono ho.mono⟩
end
end Fx

namespace Fx
open PySem PySem.Spec PyProof.Rows L2 Evl Lk

/-! ### a slot's owned thing is moved out of it -/
section
variable {G : Gx} {T T1 : Addr → Prop} {H H1 : Hp} {σ : L2.St} {env : Env} {F : Nat → List Addr} {s r : Sl} {v : V} {fr : List Addr} {i : Nat}
theorem set_get {env : Env} {i j : Nat} {x : Option Sl} (h : (env.set i x)[j]? = some (some s)) : (j = i ∧ x = some s) ∨ (j ≠ i ∧ env[j]? = some (some s)) := by
  by_cases e : j = i
  · subst e
    by_cases hl : j < env.length
    · rw [List.getElem?_set_self hl] at h
      exact .inl ⟨rfl, Option.some.inj h⟩
    · rw [List.set_eq_of_length_le (by omega), List.getElem?_eq_none (by omega)] at h
      cases h
  · rw [List.getElem?_set_ne (Ne.symm e)] at h
    exact .inr ⟨e, h⟩
theorem own_set {o : O} (h : IsOwn (env.set i (some (.f d))) j) : j ≠ i ∧ IsOwn env j := by
  obtain ⟨o, h⟩ := h
  rcases set_get h with ⟨_, e⟩ | ⟨n, e⟩
  · cases e
  · exact ⟨n, o, e⟩
/-- one slot forgotten -/
theorem RE.drop (r : RE G T H σ env F) (i : Nat) : RE G T H σ (env.set i none) F where
  trk := r.trk
  tab := r.tab
  slot := fun j s h => by
    rcases set_get h with ⟨_, e⟩ | ⟨_, e⟩
    · cases e
    · exact r.slot j s e
  dis := fun j k n ⟨o, h1⟩ ⟨s, h2⟩ => by
    rcases set_get h1 with ⟨_, e⟩ | ⟨_, h1⟩
    · cases e
    rcases set_get h2 with ⟨_, e⟩ | ⟨_, h2⟩
    · cases e
    exact r.dis j k n ⟨o, h1⟩ ⟨s, h2⟩
  st := r.st
  ow := fun a ⟨j, ⟨o, h⟩, ha⟩ => by
    rcases set_get h with ⟨_, e⟩ | ⟨_, h⟩
    · cases e
    · exact r.ow a ⟨j, ⟨o, h⟩, ha⟩
  t0 := r.t0
  pin := r.pin
  len := by rw [List.length_set]; exact r.len
  hx := r.hx
/-- a slot stored: what was in it is let go -/
theorem RE.store (re : RE G T H σ env F) (i : Nat) (hi : i < σ.length) (hp : G.prot i = false) (nv : ∀ o, r ≠ .vw o) (z : SlR G T H r v fr) (dis : ∀ o, r = .own o → ∀ j, IsS env j → ∀ a ∈ fr, a ∉ F j) (fo : ∀ o, r = .own o → ∀ a ∈ fr, G.P0 a ∨ G.H0 a = none) :
    RE G T H (σ.set i (some v)) (env.set i (some r)) (upF F i fr) where
  trk := re.trk
  tab := re.tab
  slot := fun j s h => by
    rcases set_get h with ⟨e, e2⟩ | ⟨e, e2⟩
    · cases e2
      subst e
      refine ⟨v, List.getElem?_set_self hi, ?_⟩
      rw [upF_same]
      exact z
    · obtain ⟨w, h1, h2⟩ := re.slot j s e2
      refine ⟨w, by rw [List.getElem?_set_ne (Ne.symm e)]; exact h1, ?_⟩
      rw [upF_ne e]
      exact h2
  dis := fun j k n ⟨o, h1⟩ ⟨s, h2⟩ a ha hb => by
    rcases set_get h1 with ⟨e, e1⟩ | ⟨e, h1⟩
    · cases e1
      subst e
      rcases set_get h2 with ⟨e, e1⟩ | ⟨e, h2⟩
      · exact n e.symm
      · rw [upF_same] at ha
        rw [upF_ne e] at hb
        exact dis o rfl k ⟨s, h2⟩ a ha hb
    · rw [upF_ne e] at ha
      have g1 : IsS env j := ⟨_, h1⟩
      rcases set_get h2 with ⟨e2, e1⟩ | ⟨e2, h2⟩
      · cases e1
        subst e2
        rw [upF_same] at hb
        cases r with
        | f d => rw [z.2] at hb; cases hb
        | own o' => exact dis o' rfl j g1 a hb ha
        | vw o' => exact absurd rfl (nv o')
      · rw [upF_ne e2] at hb
        exact re.dis j k n ⟨o, h1⟩ ⟨s, h2⟩ a ha hb
  st := re.st
  ow := fun a ⟨j, ⟨o, h⟩, ha⟩ => by
    rcases set_get h with ⟨e, e1⟩ | ⟨e, h⟩
    · cases e1
      subst e
      rw [upF_same] at ha
      exact fo o rfl a ha
    · rw [upF_ne e] at ha
      exact re.ow a ⟨j, ⟨o, h⟩, ha⟩
  t0 := re.t0
  pin := fun j hj => by
    have n : i ≠ j := fun e => by rw [← e, hp] at hj; cases hj
    rw [List.getElem?_set_ne n]
    exact re.pin j hj
  len := by rw [List.length_set, List.length_set]; exact re.len
  hx := re.hx
end

/-! ### argument lists -/
/-- the arguments: what is owned of a passing one stands apart -/
structure ArgR (G : Gx) (σ : L2.St) (T0 : Addr → Prop) (H0 : Hp) (env0 : Env) (F0 : Nat → List Addr) (T : Addr → Prop) (H : Hp) (env : Env) (F : Nat → List Addr) (as : List Ag) (vs : List V) (Fa : Nat → List Addr) : Prop where
  len : vs.length = as.length
  val : ∀ (j : Nat) (s : Sl), as[j]? = some (Ag.v s) → ∃ v, vs[j]? = some v ∧ SlR G T H s v (Fa j) ∧ ∀ o, s ≠ .vw o
  slt : ∀ (j i : Nat) (b : Bool), as[j]? = some (Ag.slot i b) → ∃ v, σ[i]? = some (some v) ∧ vs[j]? = some v
  dis : ∀ (j : Nat) (o : O), as[j]? = some (Ag.v (.own o)) → (∀ i, IsS env i → ∀ a ∈ Fa j, a ∉ F i) ∧ ∀ (k : Nat) (s : Sl), k ≠ j → as[k]? = some (Ag.v s) → ∀ a ∈ Fa j, a ∉ Fa k
  from_ : ∀ (j : Nat) (o : O), as[j]? = some (Ag.v (.own o)) → ∀ a ∈ Fa j, OwnP env0 F0 a ∨ H0 a = none
def tWA (G : Gx) (w : WA) : TA := fun σ H Q => ∃ T env F, RE G T H σ env F ∧ w env fun as env' => ∀ vs T' H' F' Fa, Att G σ T H env F T' H' env' F' → ArgR G σ T H env F T' H' env' F' as vs Fa → Q vs H'
structure GA (X : Cx) (G : Gx) (es : List Expr) (w : WA) : Prop where
  pa : PA X es (tWA G w)
  mono : MonoA w
def waNil : WA := fun env Q => Q [] env
def waCons (w : WE) (wr : WA) : WA := fun env Q => w env fun r e => (∀ o, r ≠ .vw o) ∧ wr e fun as e2 => Q (.v r :: as) e2
def waSlot (i : Nat) (own : Bool) (wr : WA) : WA := fun env Q => (∃ s, env[i]? = some (some s)) ∧ wr env fun as e2 => Q (.slot i own :: as) e2
section
variable {X : Cx} {G : Gx} {e : Expr} {es : List Expr} {w : WE} {wr : WA}
theorem att_out {T1 T2 : Addr → Prop} {H1 H2 : Hp} {σ : L2.St} {env1 env2 : Env} {F1 F2 : Nat → List Addr} {fr : List Addr} (t : Trk T1 H1) (b : Att G σ T1 H1 env1 F1 T2 H2 env2 F2)
    (tr : ∀ x ∈ fr, T1 x) (n : ∀ i, IsS env1 i → ∀ x ∈ fr, x ∉ F1 i) : (∀ i, IsS env2 i → ∀ x ∈ fr, x ∉ F2 i) := fun i ⟨s, hi⟩ x hx hF => by
  cases s with
  | f d =>
    obtain ⟨v, _, _, e⟩ := b.re.slot i _ hi
    rw [e] at hF
    cases hF
  | own o =>
    rcases b.own x ⟨i, ⟨o, hi⟩, hF⟩ with ⟨j, ⟨o', hj⟩, hF1⟩ | z
    · exact n j ⟨_, hj⟩ x hx hF1
    · exact t x (tr x hx) z
  | vw o =>
    obtain ⟨h1, e⟩ := b.vw i o hi
    rw [e] at hF
    exact n i ⟨_, h1⟩ x hx hF
theorem ga_nil : GA X G [] waNil := by
  refine ⟨pa_imp pa_nil fun σ H Q ⟨T, env, F, r, q⟩ => ?_, fun env Q Q' i q => i _ _ q⟩
  exact q [] T H F (fun _ => []) (.refl r) ⟨rfl, fun _ _ h => (by cases h), fun _ _ _ h => (by cases h), fun _ _ h => (by cases h), fun _ _ h => (by cases h)⟩
theorem tc_cons {σ : L2.St} {H : Hp} {Q : List V → Hp → Prop} (hm : MonoE w) (hn : MonoA wr) (h : tWA G (waCons w wr) σ H Q) : tCons (tW G w) (tWA G wr) σ H Q := by
  obtain ⟨T, env, F, r, q⟩ := h
  refine ⟨T, env, F, r, hm env _ _ (fun s e ⟨nv, q⟩ x T1 H1 F1 f1 a1 z1 => ?_) q⟩
  refine ⟨T1, e, F1, a1.re, hn e _ _ (fun as e2 q vs T2 H2 F2 Fa a2 z2 => ?_) q⟩
  have sub1 := z1.rel.sub
  have f1e : (∀ o, s ≠ .own o) → f1 = [] := fun n => by
    cases s with
    | f d => exact z1.rel.2
    | own o => exact absurd rfl (n o)
    | vw o => exact absurd rfl (nv o)
  have nP : ∀ x ∈ f1, ¬ OwnP e F1 x := fun y hy ⟨i, ⟨o, hi⟩, hF⟩ => by
    cases s with
    | f d => rw [z1.rel.2] at hy; cases hy
    | own o' => exact z1.dis o' rfl i ⟨_, hi⟩ y hy hF
    | vw o' => exact nv o' rfl
  have nA : ∀ k s', as[k]? = some (Ag.v s') → ∀ y ∈ f1, y ∉ Fa k := fun k s' hk y hy hF => by
    cases s' with
    | f d =>
      obtain ⟨v, _, z, _⟩ := z2.val k _ hk
      rw [z.2] at hF
      cases hF
    | vw o =>
      obtain ⟨v, _, _, n⟩ := z2.val k _ hk
      exact n o rfl
    | own o =>
      rcases z2.from_ k o hk y hF with h | h
      · exact nP y hy h
      · exact a1.re.trk y (sub1 y hy) h
  refine q (x :: vs) T2 H2 F2 (fun j => match j with | 0 => f1 | j + 1 => Fa j) (a1.trans r.trk a2) ⟨by simp [z2.len], fun j s' hj => ?_, fun j i b hj => ?_, fun j o hj => ?_, fun j o hj => ?_⟩
  · cases j with
    | zero =>
      cases hj
      exact ⟨x, rfl, z1.rel.chg a2.chg a1.re.sub nP, nv⟩
    | succ j => exact z2.val j s' (by simpa using hj)
  · cases j with
    | zero => cases hj
    | succ j => exact z2.slt j i b (by simpa using hj)
  · cases j with
    | zero =>
      cases hj
      refine ⟨att_out a1.re.trk a2 sub1 (z1.dis o rfl), fun k s' nk hk y hy => ?_⟩
      cases k with
      | zero => exact absurd rfl nk
      | succ k => exact nA k s' (by simpa using hk) y hy
    | succ j =>
      obtain ⟨d1, d2⟩ := z2.dis j o (by simpa using hj)
      refine ⟨d1, fun k s' nk hk y hy => ?_⟩
      cases k with
      | zero =>
        cases hk
        exact fun h => nA j _ (by simpa using hj) y h hy
      | succ k => exact d2 k s' (fun e => nk (by rw [e])) (by simpa using hk) y hy
  · cases j with
    | zero => cases hj; exact z1.from_ o rfl
    | succ j =>
      intro y hy
      rcases z2.from_ j o (by simpa using hj) y hy with h | h
      · exact a1.own y h
      · refine .inr ?_
        cases e : H y with
        | none => rfl
        | some u => exact absurd h (a1.chg.dom y (by rw [e]; exact nofun))
theorem ga_cons (ha : GE X G e w) (hr : GA X G es wr) (hs : starEach (e :: es) X.env = (false, eval e X.env) :: starEach es X.env := by rfl) : GA X G (e :: es) (waCons w wr) :=
  ⟨pa_imp (pa_cons ha.pe hr.pa hs) fun σ H Q h => tc_cons ha.mono hr.mono h, fun env Q Q' i q => ha.mono env _ _ (fun s e ⟨nv, q⟩ => ⟨nv, hr.mono e _ _ (fun as e2 q => i _ _ q) q⟩) q⟩
/-- a name that is handed on -/
theorem tc_slot {i : Nat} {own : Bool} {σ : L2.St} {H : Hp} {Q : List V → Hp → Prop} (hn : MonoA wr) (h : tWA G (waSlot i own wr) σ H Q) : tCons (tVar i) (tWA G wr) σ H Q := by
  obtain ⟨T, env, F, r, ⟨s, hs⟩, q⟩ := h
  obtain ⟨x, hx, _⟩ := r.slot i s hs
  refine ⟨x, hx, T, env, F, r, hn env _ _ (fun as e2 q vs T2 H2 F2 Fa a2 z2 => ?_) q⟩
  refine q (x :: vs) T2 H2 F2 (fun j => match j with | 0 => [] | j + 1 => Fa j) a2 ⟨by simp [z2.len], fun j s' hj => ?_, fun j i b hj => ?_, fun j o hj => ?_, fun j o hj => ?_⟩
  · cases j with
    | zero => cases hj
    | succ j => exact z2.val j s' (by simpa using hj)
  · cases j with
    | zero => cases hj; exact ⟨x, hx, rfl⟩
    | succ j => exact z2.slt j i b (by simpa using hj)
  · cases j with
    | zero => cases hj
    | succ j =>
      obtain ⟨d1, d2⟩ := z2.dis j o (by simpa using hj)
      refine ⟨d1, fun k s' nk hk y hy => ?_⟩
      cases k with
      | zero => cases hk
      | succ k => exact d2 k s' (fun e => nk (by rw [e])) (by simpa using hk) y hy
  · cases j with
    | zero => cases hj
    | succ j => exact z2.from_ j o (by simpa using hj)
theorem ga_slot {i : Nat} {own : Bool} (hv : PE X e (tVar i)) (hr : GA X G es wr) (hs : starEach (e :: es) X.env = (false, eval e X.env) :: starEach es X.env := by rfl) : GA X G (e :: es) (waSlot i own wr) :=
  ⟨pa_imp (pa_cons hv hr.pa hs) fun σ H Q h => tc_slot hr.mono h, fun env Q Q' i ⟨h, q⟩ => ⟨h, hr.mono _ _ _ (fun as e2 q => i _ _ q) q⟩⟩
/-! ### displays -/
def argsD : List Ag → Option (List D)
  | [] => some []
  | .v (.f d) :: as => (argsD as).map (d :: ·)
  | _ :: _ => none
theorem args_fz {σ : L2.St} {T0 T : Addr → Prop} {H0 H : Hp} {env0 env : Env} {F0 F : Nat → List Addr} {as : List Ag} {vs : List V} {Fa : Nat → List Addr} {ds : List D} (z : ArgR G σ T0 H0 env0 F0 T H env F as vs Fa) (h : argsD as = some ds) : FzL G.K (hid T H) vs ds := by
  have key : ∀ (as : List Ag) (vs : List V) (ds : List D), vs.length = as.length → (∀ (j : Nat) (s : Sl), as[j]? = some (Ag.v s) → ∃ v fr, vs[j]? = some v ∧ SlR G T H s v fr) → argsD as = some ds → FzL G.K (hid T H) vs ds := by
    intro as
    induction as with
    | nil =>
      intro vs ds hl _ h
      cases h
      cases vs with
      | nil => exact .nil
      | cons _ _ => cases hl
    | cons a as ih =>
      intro vs ds hl hv h
      cases vs with
      | nil => cases hl
      | cons v vs =>
        cases a with
        | slot i b => cases h
        | v s =>
          cases s with
          | own o => cases h
          | vw o => cases h
          | f d =>
            have h : (argsD as).map (d :: ·) = some ds := h
            cases e : argsD as with
            | none => rw [e] at h; cases h
            | some es =>
              rw [e] at h
              cases h
              obtain ⟨v', fr, e1, e2⟩ := hv 0 _ rfl
              cases e1
              refine .cons e2.1 (ih vs es (by simpa using hl) (fun j s hj => ?_) e)
              obtain ⟨v', fr, e1, e2⟩ := hv (j + 1) s (by simpa using hj)
              exact ⟨v', fr, by simpa using e1, e2⟩
  exact key as vs ds z.len (fun j s hj => let ⟨v, a, b, _⟩ := z.val j s hj; ⟨v, _, a, b⟩) h
def wTup (wa : WA) : WE := fun env Q => wa env fun as e => ∃ ds, argsD as = some ds ∧ ds.length ≤ sizeLine ∧ Q (.f (.tup ds)) e
def wLst (wa : WA) : WE := fun env Q => wa env fun as e => ∃ ds, argsD as = some ds ∧ ds.length ≤ sizeLine ∧ Q (.f (.lst ds)) e
/-- a list that is owned -/
def wLstO (wa : WA) : WE := fun env Q => wa env fun as e => ∃ ds, argsD as = some ds ∧ ds.length ≤ sizeLine ∧ Q (.own (.lst ds)) e
variable {wa : WA}
theorem nT {T : Addr → Prop} {H : Hp} {p : Addr} (t : Trk T H) (h : H p = none) : ¬ T p := fun z => t p z h
theorem ge_tup {x1 : Nat} {pos : Pos} (ha : GA X G es wa) : GE X G (.Tuple es x1 pos) (wTup wa) := by
  refine ⟨pe_imp (pe_tup ha.pa) fun σ H Q ⟨T, env, F, r, q⟩ => ⟨T, env, F, r, ha.mono env _ _ (fun as e ⟨ds, hd, hl, q⟩ vs T1 H1 F1 Fa a1 z1 => ?_) q⟩, fun env Q Q' i q => ha.mono env _ _ (fun as e ⟨ds, hd, hl, q⟩ => ⟨ds, hd, hl, i _ _ q⟩) q⟩
  have fz := args_fz z1 hd
  refine ⟨by rw [fz.length]; exact hl, fun p np => ?_⟩
  have ex : Ex H1 (upd H1 p (.tup vs)) := Ex.new np
  exact q _ T1 _ F1 [] (a1.trans r.trk (Att.ex a1.re ex)) (res_f (.tup (SqT.of (hid_of upd_same (nT a1.re.trk np))) (fz.ex (hid_mono ex))))
theorem ge_lst {pos : Pos} (ha : GA X G es wa) : GE X G (.List es pos) (wLst wa) := by
  refine ⟨pe_imp (pe_lst ha.pa) fun σ H Q ⟨T, env, F, r, q⟩ => ⟨T, env, F, r, ha.mono env _ _ (fun as e ⟨ds, hd, hl, q⟩ vs T1 H1 F1 Fa a1 z1 => ?_) q⟩, fun env Q Q' i q => ha.mono env _ _ (fun as e ⟨ds, hd, hl, q⟩ => ⟨ds, hd, hl, i _ _ q⟩) q⟩
  have fz := args_fz z1 hd
  refine ⟨by rw [fz.length]; exact hl, fun p np => ?_⟩
  have ex : Ex H1 (upd H1 p (.lst vs)) := Ex.new np
  exact q _ T1 _ F1 [] (a1.trans r.trk (Att.ex a1.re ex)) (res_f (.lst (SqL.of (hid_of upd_same (nT a1.re.trk np))) (fz.ex (hid_mono ex))))
/-- a new thing that is owned -/
theorem att_new {T : Addr → Prop} {H : Hp} {σ : L2.St} {env : Env} {F : Nat → List Addr} {p : Addr} {o : HO} (r : RE G T H σ env F) (np : H p = none) : Att G σ T H env F (fun a => T a ∨ a = p) (upd H p o) env F := by
  have c : Chg T H (fun _ => False) (fun a => T a ∨ a = p) (upd H p o) := Chg.newOwn r.trk np
  exact ⟨c.weak fun _ h => h.elim, r.chg c (fun _ h => h.elim) (fun _ h => h.elim) fun _ _ _ _ h => h, fun _ h => .inl h, fun _ _ h => ⟨h, rfl⟩⟩
theorem own_new {T : Addr → Prop} {H : Hp} {σ : L2.St} {env : Env} {F : Nat → List Addr} {p : Addr} {ob : HO} {o : O} {v : V} (r : RE G T H σ env F) (np : H p = none) (ow : Ow G.K (fun a => T a ∨ a = p) (upd H p ob) o v [p]) :
    Res G T H env F (fun a => T a ∨ a = p) (upd H p ob) env F (.own o) v [p] :=
  ⟨ow, fun _ _ i ⟨s, hs⟩ a ha hF => by
    rw [List.mem_singleton.mp ha] at hF
    obtain ⟨v, _, z⟩ := r.slot i s hs
    exact r.trk p (z.sub p hF) np, fun _ _ a ha => by rw [List.mem_singleton.mp ha]; exact .inr np⟩
theorem hid_new {T : Addr → Prop} {H : Hp} {p : Addr} {o : HO} (np : H p = none) : Ex (hid T H) (hid (fun a => T a ∨ a = p) (upd H p o)) := fun a u h => by
  obtain ⟨h1, h2⟩ := hid_some h
  have n : a ≠ p := ne_of_none h1 np
  exact hid_of (by rw [upd_ne n]; exact h1) fun z => z.elim h2 n
theorem ge_lstO {pos : Pos} (ha : GA X G es wa) : GE X G (.List es pos) (wLstO wa) := by
  refine ⟨pe_imp (pe_lst ha.pa) fun σ H Q ⟨T, env, F, r, q⟩ => ⟨T, env, F, r, ha.mono env _ _ (fun as e ⟨ds, hd, hl, q⟩ vs T1 H1 F1 Fa a1 z1 => ?_) q⟩, fun env Q Q' i q => ha.mono env _ _ (fun as e ⟨ds, hd, hl, q⟩ => ⟨ds, hd, hl, i _ _ q⟩) q⟩
  have fz := args_fz z1 hd
  refine ⟨by rw [fz.length]; exact hl, fun p np => ?_⟩
  exact q _ _ _ F1 [p] (a1.trans r.trk (att_new a1.re np)) (res_trans r.trk a1 (own_new a1.re np (.lst (.inr rfl) upd_same (fz.ex (hid_new np)))))
end
end Fx

namespace Fx
open PySem PySem.Spec PyProof.Rows L2 Evl Lk

/-- a result that is handed out of the frame -/
structure ResS (G : Gx) (T : Addr → Prop) (H : Hp) (env : Env) (F : Nat → List Addr) (r : Sl) (v : V) (fr : List Addr) : Prop where
  rel : SlR G T H r v fr
  nv : ∀ o, r ≠ .vw o
  dis : ∀ o, r = .own o → ∀ i, IsS env i → ∀ a ∈ fr, a ∉ F i
  from_ : ∀ o, r = .own o → ∀ a ∈ fr, G.P0 a ∨ G.H0 a = none
/-- what is wanted, over trees; h0: what is not owned as the statement begins -/
def toD (G : Gx) (h0 : Hp) (D : Ends) : WEnds where
  nx := fun env => ∀ σ T H F, RE G T H σ env F → Ex h0 (hid T H) → D.nx σ H
  rt := fun r env => ∀ v σ T H F fr, RE G T H σ env F → ResS G T H env F r v fr → D.rt v H
  bk := fun env => ∀ σ T H F, RE G T H σ env F → Ex h0 (hid T H) → D.bk σ H
  ct := fun env => ∀ σ T H F, RE G T H σ env F → Ex h0 (hid T H) → D.ct σ H
theorem toD_le {G : Gx} {h0 h1 : Hp} {D : Ends} (e : Ex h0 h1) : (toD G h0 D).Le (toD G h1 D) :=
  ⟨fun env q σ T H F r x => q σ T H F r (e.trans x), fun _ _ q => q, fun env q σ T H F r x => q σ T H F r (e.trans x), fun env q σ T H F r x => q σ T H F r (e.trans x)⟩
def tWS (G : Gx) (w : WS) : TS := fun D σ H => ∃ T env F, RE G T H σ env F ∧ w (toD G (hid T H) D) env
structure GS (X : Cx) (G : Gx) (st : Stmt) (w : WS) : Prop where
  ps : PS X st (tWS G w)
  mono : MonoS w
structure GSs (X : Cx) (G : Gx) (st : List Stmt) (w : WS) : Prop where
  pss : PSs X st (tWS G w)
  mono : MonoS w
def wNext : WS := fun D env => D.nx env
def wSeq (w1 w2 : WS) : WS := fun D env => w1 { D with nx := fun e => w2 D e } env
def wRet (w : WE) : WS := fun D env => w env fun r e => (∀ o, r ≠ .vw o) ∧ D.rt r e
def wRetN : WS := fun D env => D.rt (.f .non) env
def wDrop (w : WE) : WS := fun D env => w env fun _ e => D.nx e
def wIfS (t : WT) (w1 w2 : WS) : WS := fun D env => t env fun b e => if b = true then w1 D e else w2 D e
def wSet (i : Nat) (w : WE) : WS := fun D env => w env fun r e => (∀ o, r ≠ .vw o) ∧ i < e.length ∧ D.nx (e.set i (some r))
abbrev WG := D → Env → (Env → Prop) → Prop
abbrev WGs := List D → Env → (Env → Prop) → Prop
def MonoG (g : WG) : Prop := ∀ d env (Q Q' : Env → Prop), (∀ e, Q e → Q' e) → g d env Q → g d env Q'
def MonoGs (g : WGs) : Prop := ∀ d env (Q Q' : Env → Prop), (∀ e, Q e → Q' e) → g d env Q → g d env Q'
def tWG (G : Gx) (g : WG) : TG := fun v σ H Q => ∃ T env F d, RE G T H σ env F ∧ Fz G.K (hid T H) v d ∧ g d env fun env' => ∀ σ' T' H' F', RE G T' H' σ' env' F' → Ex (hid T H) (hid T' H') → Q σ' H'
def tWGs (G : Gx) (g : WGs) : TGs := fun vs σ H Q => ∃ T env F ds, RE G T H σ env F ∧ FzL G.K (hid T H) vs ds ∧ g ds env fun env' => ∀ σ' T' H' F', RE G T' H' σ' env' F' → Ex (hid T H) (hid T' H') → Q σ' H'
structure GG (X : Cx) (G : Gx) (tg : Expr) (g : WG) : Prop where
  pg : PG X tg (tWG G g)
  mono : MonoG g
  keep : ∀ d env Q, g d env Q → g d env Q
def gn (i : Nat) : WG := fun d env Q => i < env.length ∧ Q (env.set i (some (.f d)))
def gsNil : WGs := fun ds env Q => ds = [] ∧ Q env
def gsCons (g : WG) (u : WGs) : WGs := fun ds env Q => ∃ d r, ds = d :: r ∧ g d env fun e => u r e Q
def gTp (n : Nat) (u : WGs) : WG := fun d env Q => ∃ ds, d = .tup ds ∧ ds.length = n ∧ u ds env Q
def wAsg (w : WE) (g : WG) : WS := fun D env => w env fun r e => ∃ d, r = .f d ∧ g d e D.nx
section
variable {X : Cx} {G : Gx} {st : Stmt} {rest : List Stmt} {w w1 w2 : WS} {we : WE} {t : WT} {e : Expr} {pos : Pos}
theorem gss_nil : GSs X G [] wNext := ⟨pss_imp pss_nil fun D σ H ⟨T, env, F, r, q⟩ => q σ T H F r (Ex.refl _), fun _ _ _ l q => l.nx _ q⟩
theorem gss_one (h : GS X G st w) : GSs X G [st] w := ⟨pss_one h.ps, h.mono⟩
theorem gss_cons (h : GS X G st w1) (h2 : GSs X G rest w2) : GSs X G (st :: rest) (wSeq w1 w2) := by
  refine ⟨pss_imp (pss_cons h.ps h2.pss) fun D σ H ⟨T, env, F, r, q⟩ => ⟨T, env, F, r, h.mono { toD G (hid T H) D with nx := fun e => w2 (toD G (hid T H) D) e } _ env ⟨fun e q σ' T' H' F' r' x => ⟨T', e, F', r', h2.mono _ _ _ (toD_le x) q⟩, fun _ _ q => q, fun _ q => q, fun _ q => q⟩ q⟩, fun D D' env l q => h.mono { D with nx := fun e => w2 D e } _ env ⟨fun e q => h2.mono D D' e l q, l.rt, l.bk, l.ct⟩ q⟩
theorem gs_pass : GS X G (.Pass pos) wNext := ⟨ps_imp ps_pass fun D σ H ⟨T, env, F, r, q⟩ => q σ T H F r (Ex.refl _), fun _ _ _ l q => l.nx _ q⟩
theorem gs_doc {x j p p'} : GS X G (.Expr (.Constant (.str x) j p) p') wNext := ⟨ps_imp ps_doc fun D σ H ⟨T, env, F, r, q⟩ => q σ T H F r (Ex.refl _), fun _ _ _ l q => l.nx _ q⟩
theorem gs_break : GS X G (.Break pos) (fun D env => D.bk env) := ⟨ps_imp ps_break fun D σ H ⟨T, env, F, r, q⟩ => q σ T H F r (Ex.refl _), fun _ _ _ l q => l.bk _ q⟩
theorem gs_continue : GS X G (.Continue pos) (fun D env => D.ct env) := ⟨ps_imp ps_continue fun D σ H ⟨T, env, F, r, q⟩ => q σ T H F r (Ex.refl _), fun _ _ _ l q => l.ct _ q⟩
theorem resS {T T1 : Addr → Prop} {H H1 : Hp} {σ : L2.St} {env env1 : Env} {F F1 : Nat → List Addr} {s : Sl} {v : V} {fr : List Addr} (r : RE G T H σ env F) (z : Res G T H env F T1 H1 env1 F1 s v fr) (nv : ∀ o, s ≠ .vw o) : ResS G T1 H1 env1 F1 s v fr :=
  ⟨z.rel, nv, z.dis, fun o e a ha => by
    rcases z.from_ o e a ha with q | q
    · exact r.ow a q
    · refine .inr ?_
      cases e : G.H0 a with
      | none => rfl
      | some u => exact absurd q (r.st.dom a (by rw [e]; exact nofun))⟩
theorem gs_ret (h : GE X G e we) : GS X G (.Return (some e) pos) (wRet we) := by
  refine ⟨ps_imp (ps_ret h.pe) fun D σ H ⟨T, env, F, r, q⟩ => ⟨T, env, F, r, h.mono _ _ _ (fun s e ⟨nv, q⟩ v T' H' F' fr a z => ?_) q⟩, fun D D' env l q => h.mono _ _ _ (fun s e ⟨nv, q⟩ => ⟨nv, l.rt _ _ q⟩) q⟩
  exact q v σ T' H' F' fr a.re (resS r z nv)
theorem gs_retN : GS X G (.Return none pos) wRetN := by
  refine ⟨ps_imp ps_retN fun D σ H ⟨T, env, F, r, q⟩ => ?_, fun D D' env l q => l.rt _ _ q⟩
  exact q .non σ T H F [] r ⟨⟨.non, rfl⟩, nofun, nofun, nofun⟩
theorem gs_expr (h : GE X G e we) (hs : swapsWith e none pos.line X.env = pure false := by rfl) : GS X G (.Expr e pos) (wDrop we) := by
  refine ⟨ps_imp (ps_expr h.pe hs) fun D σ H ⟨T, env, F, r, q⟩ => ⟨T, env, F, r, h.mono _ _ _ (fun s e q v T' H' F' fr a z => ?_) q⟩, fun D D' env l q => h.mono _ _ _ (fun s e q => l.nx _ q) q⟩
  exact q σ T' H' F' a.re (a.chg.hid r.sub)
theorem gs_if {a b : List Stmt} {c : Expr} (hc : GT X G c t) (ha : GSs X G a w1) (hb : GSs X G b w2) : GS X G (.If c a b pos) (wIfS t w1 w2) := by
  refine ⟨ps_imp (ps_if hc.pt ha.pss hb.pss) fun D σ H ⟨T, env, F, r, q⟩ => ⟨T, env, F, r, hc.mono _ _ _ (fun k e q T' H' F' a => ?_) q⟩, fun D D' env l q => hc.mono _ _ _ (fun k e q => ?_) q⟩
  · cases k with
    | true => exact ite_tt ⟨T', e, F', a.re, ha.mono _ _ _ (toD_le (a.chg.hid r.sub)) q⟩
    | false => exact ite_ff ⟨T', e, F', a.re, hb.mono _ _ _ (toD_le (a.chg.hid r.sub)) q⟩
  · cases k with
    | true => exact ha.mono _ _ _ l q
    | false => exact hb.mono _ _ _ l q
theorem gs_set {i : Nat} (h : PS X st (tAsg (tW G we) (gName i))) (m : MonoE we) (hp : G.prot i = false) : GS X G st (wSet i we) := by
  refine ⟨ps_imp h fun D σ H ⟨T, env, F, r, q⟩ => ⟨T, env, F, r, m _ _ _ (fun s e ⟨nv, hi, q⟩ v T' H' F' fr a z => ?_) q⟩, fun D D' env l q => m _ _ _ (fun s e ⟨nv, hi, q⟩ => ⟨nv, hi, l.nx _ q⟩) q⟩
  have zs := resS r z nv
  exact q _ T' H' _ (a.re.store i (by rw [← a.re.len]; exact hi) hp nv z.rel z.dis zs.from_) (a.chg.hid r.sub)
/-! targets -/
theorem gg_name {i : Nat} (h : PG X e (gName i)) (hp : G.prot i = false) : GG X G e (gn i) := by
  refine ⟨⟨fun pins s σ H v u Q I rv ⟨T, env, F, d, r, fz, hi, q⟩ => h.run pins s σ H v u Q I rv ?_⟩, fun d env Q Q' i ⟨hi, q⟩ => ⟨hi, i _ q⟩, fun _ _ _ q => q⟩
  exact q _ T H _ (r.store i (by rw [← r.len]; exact hi) hp nofun (fr := []) ⟨fz, rfl⟩ nofun nofun) (Ex.refl _)
structure GGs (X : Cx) (G : Gx) (ts : List Expr) (g : WGs) : Prop where
  pg : PGs X ts (tWGs G g)
  mono : MonoGs g
theorem ggs_nil : GGs X G [] gsNil := by
  refine ⟨⟨fun pins s σ H vs us Q I rv ⟨T, env, F, ds, r, fz, hd, q⟩ => pgs_nil.run pins s σ H vs us Q I rv ?_⟩, fun d env Q Q' i ⟨hi, q⟩ => ⟨hi, i _ q⟩⟩
  subst hd
  cases fz
  exact ⟨rfl, q σ T H F r (Ex.refl _)⟩
/-- a target's own reading: the values that are still to be stored stay -/
structure GN (X : Cx) (G : Gx) (tg : Expr) (i : Nat) : Prop where
  pg : PG X tg (gName i)
  hp : G.prot i = false
theorem ggs_cons {es : List Expr} {i : Nat} {u : WGs} (h : PG X e (gName i)) (hp : G.prot i = false) (h2 : GGs X G es u) (hs : (assignEach (e :: es) X.env).map (·.2) = assign e X.env :: (assignEach es X.env).map (·.2) := by rfl) : GGs X G (e :: es) (gsCons (gn i) u) := by
  refine ⟨⟨fun pins s σ H vs us Q I rv ⟨T, env, F, ds, r, fz, d, dr, hd, hi, q⟩ => (pgs_cons h h2.pg hs).run pins s σ H vs us Q I rv ?_⟩, fun d env Q Q' i ⟨d1, dr, hd, hi, q⟩ => ⟨d1, dr, hd, hi, h2.mono _ _ _ _ i q⟩⟩
  subst hd
  cases fz with
  | cons f1 f2 => exact ⟨_, _, rfl, T, _, _, dr, r.store (r := .f _) i (by rw [← r.len]; exact hi) hp nofun (fr := []) ⟨f1, rfl⟩ nofun nofun, f2, q⟩
theorem gg_tup {es : List Expr} {k n : Nat} {u : WGs} (hc : X.calm = true) (h : GGs X G es u) (hK : X.K = G.K := by rfl) (hn : (assignEach es X.env).length = n := by rfl) (hst : (assignEach es X.env).findIdx? (·.1) = none := by rfl) : GG X G (.Tuple es k pos) (gTp n u) := by
  refine ⟨⟨fun pins s σ H v uu Q I rv ⟨T, env, F, d, r, fz, ds, hd, hl, q⟩ => (pg_tup hc h.pg hn hst).run pins s σ H v uu Q I rv ?_⟩, fun d env Q Q' i ⟨ds, hd, hl, q⟩ => ⟨ds, hd, hl, h.mono _ _ _ _ i q⟩, fun _ _ _ q => q⟩
  subst hd
  cases fz with
  | tup a b => exact ⟨_, _, rfl, by rw [hK]; exact ex_t hid_ex a, b.length.trans hl, T, env, F, ds, r, b, q⟩
theorem gs_asg {tg : Expr} {g : WG} (he : GE X G e we) (hg : GG X G tg g) (hs : swapsWithSole [tg] e pos.line X.env = pure false := by rfl) (hw : swappedStores [tg] e X.env = pure none := by rfl)
    (h1 : (assignEach [tg] X.env).map (·.2) = [assign tg X.env] := by rfl) : GS X G (.Assign [tg] e pos) (wAsg we g) := by
  refine ⟨ps_imp (ps_asg he.pe hg.pg hs hw h1) fun D σ H ⟨T, env, F, r, q⟩ => ⟨T, env, F, r, he.mono _ _ _ (fun s e ⟨d, hd, q⟩ v T' H' F' fr a z => ?_) q⟩, fun D D' env l q => he.mono _ _ _ (fun s e ⟨d, hd, q⟩ => ⟨d, hd, hg.mono _ _ _ _ l.nx q⟩) q⟩
  subst hd
  exact ⟨T', e, F', d, a.re, z.rel.1, hg.mono _ _ _ _ (fun e q σ' T2 H2 F2 r2 x => q σ' T2 H2 F2 r2 ((a.chg.hid r.sub).trans x)) q⟩
/-! ### an owned list at a slot -/
theorem own_lst {T : Addr → Prop} {H : Hp} {σ : L2.St} {env : Env} {F : Nat → List Addr} {k : Nat} {ds : List D} (r : RE G T H σ env F) (hk : env[k]? = some (some (.own (.lst ds)))) :
    ∃ p vs, σ[k]? = some (some (.ref p)) ∧ H p = some (.lst vs) ∧ FzL G.K (hid T H) vs ds ∧
      ∀ vs' ds', FzL G.K (hid T H) vs' ds' → Att G σ T H env F T (upd H p (.lst vs')) (env.set k (some (.own (.lst ds')))) F := by
  obtain ⟨v, h1, h2⟩ := r.slot k _ hk
  have h2 : Ow G.K T H (.lst ds) v (F k) := h2
  generalize hF : F k = fk at h2
  cases h2 with
  | lst a b c =>
    rename_i p vs
    refine ⟨p, vs, h1, b, c, fun vs' ds' fz => ?_⟩
    have hkl : k < env.length := (List.getElem?_eq_some_iff.mp hk).1
    have hP : OwnP env F p := ⟨k, ⟨_, hk⟩, by rw [hF]; exact List.mem_singleton.mpr rfl⟩
    have ch1 : Chg T H (fun x => x = p) T (upd H p (.lst vs')) := Chg.write r.trk rfl
    have ch : Chg T H (OwnP env F) T (upd H p (.lst vs')) := Chg.write r.trk hP
    have he : Ex (hid T H) (hid T (upd H p (.lst vs'))) := ch.hid r.sub
    have ownb : ∀ j, IsOwn (env.set k (some (.own (.lst ds')))) j → IsOwn env j := fun j ⟨o, h⟩ => by
      rcases set_get h with ⟨e, _⟩ | ⟨_, h⟩
      · rw [e]; exact ⟨_, hk⟩
      · exact ⟨o, h⟩
    have isb : ∀ j, IsS (env.set k (some (.own (.lst ds')))) j → IsS env j := fun j ⟨o, h⟩ => by
      rcases set_get h with ⟨e, _⟩ | ⟨_, h⟩
      · rw [e]; exact ⟨_, hk⟩
      · exact ⟨o, h⟩
    refine ⟨ch, ⟨ch.tr, fun q hq => ?_, fun j s hj => ?_, fun i j n h1 h2 => r.dis i j n (ownb i h1) (isb j h2), r.st.trans r.t0 ch r.ow, fun x ⟨j, hj, hx⟩ => r.ow x ⟨j, ownb j hj, hx⟩, r.t0, r.pin, by rw [List.length_set]; exact r.len, r.hx.trans he⟩, fun x ⟨j, hj, hx⟩ => .inl ⟨j, ownb j hj, hx⟩, fun j o h => ?_⟩
    · obtain ⟨t1, t2⟩ := r.tab q hq
      exact ⟨by rw [upd_ne (fun e => t2 (by rw [e]; exact a))]; exact t1, t2⟩
    · rcases set_get hj with ⟨e, e1⟩ | ⟨e, hj⟩
      · cases e1
        subst e
        refine ⟨.ref p, h1, ?_⟩
        rw [hF]
        exact Ow.lst a upd_same (fz.ex he)
      · obtain ⟨v', g1, g2⟩ := r.slot j s hj
        refine ⟨v', g1, g2.chg ch1 (fun x hx => by rw [hx]; exact a) fun x hx hxp => ?_⟩
        refine r.dis k j (Ne.symm e) ⟨_, hk⟩ ⟨_, hj⟩ p (by rw [hF]; exact List.mem_singleton.mpr rfl) ?_
        rw [← hxp]
        exact hx
    · rcases set_get h with ⟨_, e⟩ | ⟨_, h⟩
      · cases e
      · exact ⟨h, rfl⟩
/-- x.append(e) -/
def wAppend (k : Nat) (w : WE) : WE := fun env Q => w env fun r e => ∃ d ds, r = .f d ∧ e[k]? = some (some (.own (.lst ds))) ∧ ds.length < sizeLine ∧ Q (.f .non) (e.set k (some (.own (.lst (ds ++ [d])))))
def wPopAt (k : Nat) (w : WE) : WE := fun env Q => w env fun r e => ∃ i ds j d, r = .f (.int i) ∧ e[k]? = some (some (.own (.lst ds))) ∧ -(2 ^ 63) ≤ i ∧ i < 2 ^ 63 ∧ seqIndex? i ds.length = some j ∧ ds[j]? = some d ∧ Q (.f d) (e.set k (some (.own (.lst (ds.eraseIdx j)))))
theorem is_slot {T : Addr → Prop} {H : Hp} {σ : L2.St} {env : Env} {F : Nat → List Addr} {k : Nat} (r : RE G T H σ env F) (h : IsS env k) : ∃ v, σ[k]? = some (some v) := let ⟨s, h⟩ := h; let ⟨v, a, _⟩ := r.slot k s h; ⟨v, a⟩
end
end Fx

namespace Fx
open PySem PySem.Spec PyProof.Rows L2 Evl Lk

/-! ### what is walked -/
structure ItD (K : PySem.W.Frag) (J : It) (Bs : (Addr → Prop) → Hp → Prop) (ds : List D) : Prop where
  go : ∀ i T H, Trk T H → Bs T H → i < ds.length → J.go i H ∧ ∀ v H', J.yld i H v H' → ∃ d, ds[i]? = some d ∧ Ex H H' ∧ Fz K (hid T H') v d
  stop : ∀ i T H, Bs T H → i = ds.length → J.stop i H
  keep : ∀ T H T' H', Bs T H → Ex (hid T H) (hid T' H') → Bs T' H'
abbrev WI := Env → (List D → Env → Prop) → Prop
def MonoI (w : WI) : Prop := ∀ env (Q Q' : List D → Env → Prop), (∀ r e, Q r e → Q' r e) → w env Q → w env Q'
def tWI (G : Gx) (w : WI) : TI := fun σ H R => ∃ T env F, RE G T H σ env F ∧ w env fun ds env' => ∀ J T' H' F' Bs, Att G σ T H env F T' H' env' F' → ItD G.K J Bs ds → Bs T' H' → R J H'
structure GI (X : Cx) (G : Gx) (tg iter : Expr) (w : WI) : Prop where
  pi : PI X tg iter (tWI G w)
  mono : MonoI w
section
variable {X : Cx} {G : Gx} {tg iter e : Expr} {w : WE} {wa : WA} {pos : Pos}
theorem pi_imp {t t' : TI} (h : PI X tg iter t) (i : ∀ σ H R, t' σ H R → t σ H R) : PI X tg iter t' := ⟨fun pins s σ H R I q => h.run pins s σ H R I (i σ H R q)⟩
/-- a list, a tuple, a text -/
def wiL (w : WE) : WI := fun env Q => w env fun r e => ∃ ds, r = .f (.lst ds) ∧ Q ds e
def wiT (w : WE) : WI := fun env Q => w env fun r e => ∃ ds, r = .f (.tup ds) ∧ Q ds e
def signs (x : Str) : List D := x.cps.toList.map fun c => .str ⟨#[c]⟩
def wiS (w : WE) : WI := fun env Q => w env fun r e => ∃ x, r = .f (.str x) ∧ Q (signs x) e
theorem itd_list {K : PySem.W.Frag} {a : Addr} {ds : List D} : ItD K (Itl K a) (fun T H => Fz K (hid T H) (.ref a) (.lst ds)) ds where
  go := fun i T H t h hi => by
    cases h with
    | lst l fl =>
      rename_i vs
      have hv : i < vs.length := by rw [fl.length]; exact hi
      refine ⟨⟨vs, _, ex_l hid_ex l, List.getElem?_eq_getElem hv⟩, fun v H' ⟨e, y⟩ => ?_⟩
      subst e
      exact ⟨_, List.getElem?_eq_getElem hi, Ex.refl _, fl.get (y vs (ex_l hid_ex l)) (List.getElem?_eq_getElem hi)⟩
  stop := fun i T H h hi => by
    cases h with
    | lst l fl => exact ⟨_, ex_l hid_ex l, by rw [fl.length, hi]; exact Nat.le_refl _⟩
  keep := fun T H T' H' h e => h.ex e
theorem itd_tup {K : PySem.W.Frag} {a : Addr} {ds : List D} : ItD K (Itt K a) (fun T H => Fz K (hid T H) (.ref a) (.tup ds)) ds where
  go := fun i T H t h hi => by
    cases h with
    | tup l fl =>
      rename_i vs
      have hv : i < vs.length := by rw [fl.length]; exact hi
      refine ⟨⟨vs, _, ex_t hid_ex l, List.getElem?_eq_getElem hv⟩, fun v H' ⟨e, y⟩ => ?_⟩
      subst e
      exact ⟨_, List.getElem?_eq_getElem hi, Ex.refl _, fl.get (y vs (ex_t hid_ex l)) (List.getElem?_eq_getElem hi)⟩
  stop := fun i T H h hi => by
    cases h with
    | tup l fl => exact ⟨_, ex_t hid_ex l, by rw [fl.length, hi]; exact Nat.le_refl _⟩
  keep := fun T H T' H' h e => h.ex e
theorem itd_str {K : PySem.W.Frag} {x : Str} : ItD K (Its x) (fun _ _ => True) (signs x) where
  go := fun i T H t h hi => by
    have hl : (signs x).length = x.cps.size := by unfold signs; simp
    refine ⟨(show i < x.cps.size by rw [← hl]; exact hi), fun v H' ⟨e, c, hc, ev⟩ => ?_⟩
    subst e ev
    refine ⟨.str ⟨#[c]⟩, ?_, Ex.refl _, .str _⟩
    unfold signs
    rw [List.getElem?_map, Array.getElem?_toList, hc] <;> rfl
  stop := fun i T H h hi => by
    have hl : (signs x).length = x.cps.size := by unfold signs; simp
    show x.cps.size ≤ i
    rw [hi, hl] <;> exact Nat.le_refl _
  keep := fun _ _ _ _ _ _ => trivial
theorem itd_rng {K : PySem.W.Frag} {lo : Int} {n : Nat} : ItD K (Itr lo n) (fun _ _ => True) ((List.range n).map fun k : Nat => .int (lo + (k : Int))) where
  go := fun i T H t h hi => by
    have hi' : i < n := by simpa using hi
    refine ⟨hi', fun v H' ⟨e, ev⟩ => ?_⟩
    subst e ev
    exact ⟨.int (lo + (i : Int)), by rw [List.getElem?_map, List.getElem?_range hi'] <;> rfl, Ex.refl _, .int _⟩
  stop := fun i T H h hi => by
    show n ≤ i
    rw [hi] <;> simp
  keep := fun _ _ _ _ _ _ => trivial
theorem gi_list (h : GE X G e w) (hK : X.K = G.K := by rfl) : GI X G tg e (wiL w) := by
  refine ⟨pi_imp (pi_list h.pe) fun σ H R ⟨T, env, F, r, q⟩ => ⟨T, env, F, r, h.mono _ _ _ (fun s e ⟨ds, hd, q⟩ v T' H' F' fr a z => ?_) q⟩, fun env Q Q' i q => h.mono _ _ _ (fun s e ⟨ds, hd, q⟩ => ⟨ds, hd, i _ _ q⟩) q⟩
  subst hd
  have fz := z.rel.1
  cases id fz with
  | lst l fl =>
    rw [hK]
    exact ⟨_, rfl, ⟨_, ex_l hid_ex l⟩, q _ T' H' F' _ a itd_list fz⟩
theorem gi_tup (h : GE X G e w) (hK : X.K = G.K := by rfl) : GI X G tg e (wiT w) := by
  refine ⟨pi_imp (pi_tup h.pe) fun σ H R ⟨T, env, F, r, q⟩ => ⟨T, env, F, r, h.mono _ _ _ (fun s e ⟨ds, hd, q⟩ v T' H' F' fr a z => ?_) q⟩, fun env Q Q' i q => h.mono _ _ _ (fun s e ⟨ds, hd, q⟩ => ⟨ds, hd, i _ _ q⟩) q⟩
  subst hd
  have fz := z.rel.1
  cases id fz with
  | tup l fl =>
    rw [hK]
    exact ⟨_, rfl, ⟨_, ex_t hid_ex l⟩, q _ T' H' F' _ a itd_tup fz⟩
theorem gi_str (h : GE X G e w) : GI X G tg e (wiS w) := by
  refine ⟨pi_imp (pi_str h.pe) fun σ H R ⟨T, env, F, r, q⟩ => ⟨T, env, F, r, h.mono _ _ _ (fun s e ⟨x, hd, q⟩ v T' H' F' fr a z => ?_) q⟩, fun env Q Q' i q => h.mono _ _ _ (fun s e ⟨ds, hd, q⟩ => ⟨ds, hd, i _ _ q⟩) q⟩
  subst hd
  have fz := z.rel.1
  cases fz
  exact ⟨_, rfl, q _ T' H' F' _ a itd_str trivial⟩
def wiR1 (wa : WA) : WI := fun env Q => wa env fun as e => ∃ j : Int, as = [.v (.f (.int j))] ∧ -(2 ^ 62) ≤ j ∧ j < 2 ^ 62 ∧ Q ((List.range j.toNat).map fun k : Nat => .int (0 + (k : Int))) e
def wiR2 (wa : WA) : WI := fun env Q => wa env fun as e => ∃ i j : Int, as = [.v (.f (.int i)), .v (.f (.int j))] ∧ (-(2 ^ 62) ≤ i ∧ i < 2 ^ 62 ∧ -(2 ^ 62) ≤ j ∧ j < 2 ^ 62) ∧ Q ((List.range (j - i).toNat).map fun k : Nat => .int (i + (k : Int))) e
theorem args1 {σ : L2.St} {T0 T : Addr → Prop} {H0 H : Hp} {env0 env : Env} {F0 F : Nat → List Addr} {vs : List V} {Fa : Nat → List Addr} {d : D} (z : ArgR G σ T0 H0 env0 F0 T H env F [.v (.f d)] vs Fa) : ∃ v, vs = [v] ∧ Fz G.K (hid T H) v d := by
  have fz := args_fz z (ds := [d]) rfl
  cases fz with
  | cons a b => cases b; exact ⟨_, rfl, a⟩
theorem args2 {σ : L2.St} {T0 T : Addr → Prop} {H0 H : Hp} {env0 env : Env} {F0 F : Nat → List Addr} {vs : List V} {Fa : Nat → List Addr} {d d2 : D} (z : ArgR G σ T0 H0 env0 F0 T H env F [.v (.f d), .v (.f d2)] vs Fa) : ∃ v v2, vs = [v, v2] ∧ Fz G.K (hid T H) v d ∧ Fz G.K (hid T H) v2 d2 := by
  have fz := args_fz z (ds := [d, d2]) rfl
  cases fz with
  | cons a b => cases b with
    | cons b c => cases c; exact ⟨_, _, rfl, a, b⟩
theorem gi_r1 {a : Expr} {p : Pos} (hg : Gl X "range") (hm : X.mg "range" = none) (ha : GA X G [a] wa) (hs : starEach [a] X.env = [(false, eval a X.env)] := by rfl) : GI X G tg (.Call (.Name "range" p) [a] [] pos) (wiR1 wa) := by
  refine ⟨pi_imp (pi_range1 hg hm ha.pa hs) fun σ H R ⟨T, env, F, r, q⟩ => ⟨T, env, F, r, ha.mono _ _ _ (fun as e ⟨j, hj, h1, h2, q⟩ vs T' H' F' Fa a z => ?_) q⟩, fun env Q Q' i q => ha.mono _ _ _ (fun s e ⟨j, hj, h1, h2, q⟩ => ⟨j, hj, h1, h2, i _ _ q⟩) q⟩
  subst hj
  obtain ⟨v, rfl, fz⟩ := args1 z
  cases fz
  exact ⟨j, rfl, h1, h2, q _ T' H' F' _ a itd_rng trivial⟩
theorem gi_r2 {a b : Expr} {p : Pos} (hg : Gl X "range") (hm : X.mg "range" = none) (ha : GA X G [a, b] wa) (hs : starEach [a, b] X.env = [(false, eval a X.env), (false, eval b X.env)] := by rfl) (hs2 : starEach [b] X.env = [(false, eval b X.env)] := by rfl) : GI X G tg (.Call (.Name "range" p) [a, b] [] pos) (wiR2 wa) := by
  refine ⟨pi_imp (pi_range2 hg hm ha.pa hs hs2) fun σ H R ⟨T, env, F, r, q⟩ => ⟨T, env, F, r, ha.mono _ _ _ (fun as e ⟨i, j, hj, h1, q⟩ vs T' H' F' Fa a z => ?_) q⟩, fun env Q Q' ii q => ha.mono _ _ _ (fun s e ⟨i, j, hj, h1, q⟩ => ⟨i, j, hj, h1, ii _ _ q⟩) q⟩
  subst hj
  obtain ⟨v, v2, rfl, fz, fz2⟩ := args2 z
  cases fz
  cases fz2
  exact ⟨i, j, rfl, h1, q _ T' H' F' _ a itd_rng trivial⟩
/-- enumerate(a list) -/
def wiE (wa : WA) : WI := fun env Q => wa env fun as e => ∃ ds, as = [.v (.f (.lst ds))] ∧ Q (ds.mapIdx fun i d => .tup [.int (i : Nat), d]) e
theorem itd_enum {K : PySem.W.Frag} {a : Addr} {ds : List D} : ItD K (Ite K a) (fun T H => Fz K (hid T H) (.ref a) (.lst ds)) (ds.mapIdx fun i d => .tup [.int (i : Nat), d]) where
  go := fun i T H t h hi => by
    have hi' : i < ds.length := by simpa using hi
    cases h with
    | lst l fl =>
      rename_i vs
      have hv : i < vs.length := by rw [fl.length]; exact hi'
      refine ⟨⟨vs, _, ex_l hid_ex l, List.getElem?_eq_getElem hv⟩, fun v H' ⟨T1, x, ev, n, e, y⟩ => ?_⟩
      subst e ev
      have ex : Ex H (upd H T1 (.tup [.int (i : Nat), x])) := Ex.new n
      refine ⟨.tup [.int (i : Nat), ds[i]], by rw [List.getElem?_mapIdx, List.getElem?_eq_getElem hi'] <;> rfl, ex, .tup (SqT.of (hid_of upd_same (nT t n))) (.cons (.int _) (.cons ?_ .nil))⟩
      exact (fl.get (y vs (ex_l hid_ex l)) (List.getElem?_eq_getElem hi')).ex (hid_mono ex)
  stop := fun i T H h hi => by
    have hi' : i = ds.length := by simpa using hi
    cases h with
    | lst l fl => exact ⟨_, ex_l hid_ex l, by rw [fl.length, hi']; exact Nat.le_refl _⟩
  keep := fun T H T' H' h e => h.ex e
theorem gi_enum {e1 : Expr} {elts : List Expr} {kk : Nat} {p tpos : Pos} (hg : Gl X "enumerate") (hm : X.mg "enumerate" = none) (ha : GA X G [e1] wa) (hK : X.K = G.K := by rfl) (hs : starEach [e1] X.env = [(false, eval e1 X.env)] := by rfl) : GI X G (.Tuple elts kk tpos) (.Call (.Name "enumerate" p) [e1] [] pos) (wiE wa) := by
  refine ⟨pi_imp (pi_enum hg hm ha.pa hs) fun σ H R ⟨T, env, F, r, q⟩ => ⟨T, env, F, r, ha.mono _ _ _ (fun as e ⟨ds, hd, q⟩ vs T' H' F' Fa a z => ?_) q⟩, fun env Q Q' i q => ha.mono _ _ _ (fun s e ⟨j, hj, q⟩ => ⟨j, hj, i _ _ q⟩) q⟩
  subst hd
  obtain ⟨v, rfl, fz⟩ := args1 z
  cases id fz with
  | lst l fl =>
    rw [hK]
    exact ⟨_, _, rfl, ex_l hid_ex l, q _ T' H' F' _ a itd_enum fz⟩
/-- zip of two tuples -/
def wiZ (wa : WA) : WI := fun env Q => wa env fun as e => ∃ ds es, (as = [.v (.f (.tup ds)), .v (.f (.tup es))] ∨ as = [.v (.f (.lst ds)), .v (.f (.lst es))]) ∧ Q (List.zipWith (fun d e => .tup [d, e]) ds es) e
theorem itd_zipT {K : PySem.W.Frag} {a b : Addr} {ds es : List D} : ItD K (RZ.ItzT K a b) (fun T H => Fz K (hid T H) (.ref a) (.tup ds) ∧ Fz K (hid T H) (.ref b) (.tup es)) (List.zipWith (fun d e => .tup [d, e]) ds es) where
  go := fun i T H t h hi => by
    have h1 : i < ds.length := by simp at hi; omega
    have h2 : i < es.length := by simp at hi; omega
    obtain ⟨ha, hb⟩ := h
    cases ha with
    | tup l fl =>
      cases hb with
      | tup l2 fl2 =>
        rename_i vs ws
        have hv : i < vs.length := by rw [fl.length]; exact h1
        have hw : i < ws.length := by rw [fl2.length]; exact h2
        refine ⟨⟨vs, ws, _, _, ex_t hid_ex l, ex_t hid_ex l2, List.getElem?_eq_getElem hv, List.getElem?_eq_getElem hw⟩, fun v H' ⟨T1, x, x2, ev, n, e, y, y2⟩ => ?_⟩
        subst e ev
        have ex : Ex H (upd H T1 (.tup [x, x2])) := Ex.new n
        refine ⟨.tup [ds[i], es[i]], by rw [List.getElem?_zipWith, List.getElem?_eq_getElem h1, List.getElem?_eq_getElem h2] <;> rfl, ex, .tup (SqT.of (hid_of upd_same (nT t n))) (.cons ?_ (.cons ?_ .nil))⟩
        · exact (fl.get (y vs (ex_t hid_ex l)) (List.getElem?_eq_getElem h1)).ex (hid_mono ex)
        · exact (fl2.get (y2 ws (ex_t hid_ex l2)) (List.getElem?_eq_getElem h2)).ex (hid_mono ex)
  stop := fun i T H h hi => by
    obtain ⟨ha, hb⟩ := h
    cases ha with
    | tup l fl =>
      cases hb with
      | tup l2 fl2 =>
        refine ⟨_, _, ex_t hid_ex l, ex_t hid_ex l2, ?_⟩
        have := fl.length
        have := fl2.length
        simp at hi
        omega
  keep := fun T H T' H' h e => ⟨h.1.ex e, h.2.ex e⟩
theorem itd_zipL {K : PySem.W.Frag} {a b : Addr} {ds es : List D} : ItD K (Itz K a b) (fun T H => Fz K (hid T H) (.ref a) (.lst ds) ∧ Fz K (hid T H) (.ref b) (.lst es)) (List.zipWith (fun d e => .tup [d, e]) ds es) where
  go := fun i T H t h hi => by
    have h1 : i < ds.length := by simp at hi; omega
    have h2 : i < es.length := by simp at hi; omega
    obtain ⟨ha, hb⟩ := h
    cases ha with
    | lst l fl =>
      cases hb with
      | lst l2 fl2 =>
        rename_i vs ws
        have hv : i < vs.length := by rw [fl.length]; exact h1
        have hw : i < ws.length := by rw [fl2.length]; exact h2
        refine ⟨⟨vs, ws, _, _, ex_l hid_ex l, ex_l hid_ex l2, List.getElem?_eq_getElem hv, List.getElem?_eq_getElem hw⟩, fun v H' ⟨T1, x, x2, ev, n, e, y, y2⟩ => ?_⟩
        subst e ev
        have ex : Ex H (upd H T1 (.tup [x, x2])) := Ex.new n
        refine ⟨.tup [ds[i], es[i]], by rw [List.getElem?_zipWith, List.getElem?_eq_getElem h1, List.getElem?_eq_getElem h2] <;> rfl, ex, .tup (SqT.of (hid_of upd_same (nT t n))) (.cons ?_ (.cons ?_ .nil))⟩
        · exact (fl.get (y vs (ex_l hid_ex l)) (List.getElem?_eq_getElem h1)).ex (hid_mono ex)
        · exact (fl2.get (y2 ws (ex_l hid_ex l2)) (List.getElem?_eq_getElem h2)).ex (hid_mono ex)
  stop := fun i T H h hi => by
    obtain ⟨ha, hb⟩ := h
    cases ha with
    | lst l fl =>
      cases hb with
      | lst l2 fl2 =>
        refine ⟨_, _, ex_l hid_ex l, ex_l hid_ex l2, ?_⟩
        have := fl.length
        have := fl2.length
        simp at hi
        omega
  keep := fun T H T' H' h e => ⟨h.1.ex e, h.2.ex e⟩
theorem gi_zip {e1 e2 : Expr} {elts : List Expr} {kk : Nat} {p tpos : Pos} (hg : Gl X "zip") (hm : X.mg "zip" = none) (ha : GA X G [e1, e2] wa) (hK : X.K = G.K := by rfl) (hs : starEach [e1, e2] X.env = (false, eval e1 X.env) :: starEach [e2] X.env := by rfl)
    (hpl : (backTo pos (starEach [e2] X.env)).any (·.1) = false := by rfl) : GI X G (.Tuple elts kk tpos) (.Call (.Name "zip" p) [e1, e2] [] pos) (wiZ wa) := by
  refine ⟨pi_imp (RZ.pi_zipA hg hm ha.pa hs hpl) fun σ H R ⟨T, env, F, r, q⟩ => ⟨T, env, F, r, ha.mono _ _ _ (fun as e ⟨ds, es, hd, q⟩ vs T' H' F' Fa a z => ?_) q⟩, fun env Q Q' i q => ha.mono _ _ _ (fun s e ⟨j, k, hj, q⟩ => ⟨j, k, hj, i _ _ q⟩) q⟩
  rw [hK]
  rcases hd with rfl | rfl
  · obtain ⟨v, v2, rfl, fz, fz2⟩ := args2 z
    cases id fz with
    | tup l fl =>
      cases id fz2 with
      | tup l2 fl2 => exact ⟨_, _, _, _, rfl, .inr ⟨ex_t hid_ex l, ex_t hid_ex l2, q _ T' H' F' _ a itd_zipT ⟨fz, fz2⟩⟩⟩
  · obtain ⟨v, v2, rfl, fz, fz2⟩ := args2 z
    cases id fz with
    | lst l fl =>
      cases id fz2 with
      | lst l2 fl2 => exact ⟨_, _, _, _, rfl, .inl ⟨ex_l hid_ex l, ex_l hid_ex l2, q _ T' H' F' _ a itd_zipL ⟨fz, fz2⟩⟩⟩
/-! ### for -/
def wFor (wi : WI) (g : WG) (w : WS) : WS := fun D env => wi env fun ds e0 => ∃ J : Nat → Env → Prop, J 0 e0 ∧ (∀ i d e, ds[i]? = some d → J i e → g d e fun e' => w { nx := J (i + 1), ct := J (i + 1), bk := D.nx, rt := D.rt } e') ∧ ∀ e, J ds.length e → D.nx e
theorem gs_for {wi : WI} {g : WG} {ws : WS} {body : List Stmt} (hp : PassesOwn (model X.prog X.w) X.A X.env X.xe) (hc : X.calm = true) (hi : GI X G tg iter wi) (hg : GG X G tg g) (hb : GSs X G body ws) (hs : ∀ x, foldedSetIterable iter X.env x = pure x := by intro _; rfl) : GS X G (.For tg iter body [] pos) (wFor wi g ws) := by
  refine ⟨ps_imp (ps_for hp hc hi.pi hg.pg hb.pss hs) fun D σ H ⟨T, env, F, r, q⟩ => ⟨T, env, F, r, hi.mono _ _ _ (fun ds e0 ⟨J, j0, js, jd⟩ It T1 H1 F1 Bs a it b0 => ?_) q⟩, fun D D' env l q => hi.mono _ _ _ (fun ds e0 ⟨J, j0, js, jd⟩ => ⟨J, j0, fun i d e hd hj => hg.mono _ _ _ _ (fun e' q => hb.mono { nx := J (i + 1), ct := J (i + 1), bk := D.nx, rt := D.rt } _ _ ⟨fun _ q => q, fun s e q => l.rt s e q, fun e q => l.nx e q, fun _ q => q⟩ q) (js i d e hd hj), fun e hj => l.nx e (jd e hj)⟩) q⟩
  refine ⟨fun i m σ H => m = ds.length - i ∧ i ≤ ds.length ∧ ∃ T' env' F', RE G T' H σ env' F' ∧ Bs T' H ∧ J i env' ∧ Ex (hid T1 H1) (hid T' H), ⟨_, rfl, Nat.zero_le _, T1, e0, F1, a.re, b0, j0, Ex.refl _⟩, ?_⟩
  rintro i m σ' H' ⟨rfl, hi', T', env', F', r', b', j', x'⟩
  have x0 := (a.chg.hid r.sub).trans x'
  by_cases hlt : i < ds.length
  · obtain ⟨go, yl⟩ := it.go i T' H' r'.trk b' hlt
    refine .inr ⟨go, fun σ2 H2 => ∃ T2 env2 F2, RE G T2 H2 σ2 env2 F2 ∧ Bs T2 H2 ∧ J (i + 1) env2 ∧ Ex (hid T1 H1) (hid T2 H2), fun σ2 H2 ⟨T2, env2, F2, r2, b2, j2, x2⟩ => ⟨ds.length - (i + 1), by omega, rfl, hlt, T2, env2, F2, r2, b2, j2, x2⟩, fun v H2 y => ?_⟩
    obtain ⟨d, hd, ex, fz⟩ := yl v H2 y
    have xi : Ex (hid T' H') (hid T' H2) := hid_mono ex
    refine ⟨T', env', F', d, r'.ex ex, fz, hg.mono _ _ _ _ (fun e' q σ3 T3 H3 F3 r3 x3 => ?_) (js i d env' hd j')⟩
    refine ⟨T3, e', F3, r3, hb.mono { nx := J (i + 1), rt := (toD G (hid T H) D).rt, bk := (toD G (hid T H) D).nx, ct := J (i + 1) } _ _ ⟨fun e q σ4 T4 H4 F4 r4 x4 => ?_, fun s e q => q, fun e q σ4 T4 H4 F4 r4 x4 => ?_, fun e q σ4 T4 H4 F4 r4 x4 => ?_⟩ q⟩
    · have xx := (xi.trans x3).trans x4
      exact ⟨T4, e, F4, r4, it.keep _ _ _ _ b' xx, q, x'.trans xx⟩
    · exact q σ4 T4 H4 F4 r4 (((x0.trans xi).trans x3).trans x4)
    · have xx := (xi.trans x3).trans x4
      exact ⟨T4, e, F4, r4, it.keep _ _ _ _ b' xx, q, x'.trans xx⟩
  · have e : i = ds.length := by omega
    subst e
    exact .inl ⟨it.stop _ T' H' b' rfl, jd env' j' σ' T' H' F' r' x0⟩
/-! ### while -/
def wWhile (t : WT) (w : WS) : WS := fun D env => ∃ J : Nat → Env → Prop, (∃ m, J m env) ∧ ∀ m e, J m e → t e fun b e' => if b = true then w { nx := fun e2 => ∃ m', m' < m ∧ J m' e2, ct := fun e2 => ∃ m', m' < m ∧ J m' e2, bk := D.nx, rt := D.rt } e' else D.nx e'
theorem gs_while {t : WT} {ws : WS} {c : Expr} {body : List Stmt} (hp : PassesOwn (model X.prog X.w) X.A X.env X.xe) (hc : GT X G c t) (hb : GSs X G body ws) : GS X G (.While c body [] pos) (wWhile t ws) := by
  refine ⟨ps_imp (ps_while hp hc.pt hb.pss) fun D σ H ⟨T, env, F, r, J, ⟨m0, j0⟩, js⟩ => ?_, fun D D' env l ⟨J, j0, js⟩ => ⟨J, j0, fun m e hj => hc.mono _ _ _ (fun b e' q => ?_) (js m e hj)⟩⟩
  · refine ⟨fun m σ H' => ∃ T' env' F', RE G T' H' σ env' F' ∧ J m env' ∧ Ex (hid T H) (hid T' H'), ⟨m0, T, env, F, r, j0, Ex.refl _⟩, ?_⟩
    rintro m σ' H' ⟨T', env', F', r', j', x'⟩
    refine ⟨T', env', F', r', hc.mono _ _ _ (fun b e q T2 H2 F2 a => ?_) (js m env' j')⟩
    have x2 := x'.trans (a.chg.hid r'.sub)
    cases b with
    | true =>
      refine ite_tt ⟨fun σ3 H3 => ∃ m', m' < m ∧ ∃ T3 env3 F3, RE G T3 H3 σ3 env3 F3 ∧ J m' env3 ∧ Ex (hid T H) (hid T3 H3), fun σ3 H3 q => q, T2, e, F2, a.re, hb.mono { nx := fun e2 => ∃ m', m' < m ∧ J m' e2, ct := fun e2 => ∃ m', m' < m ∧ J m' e2, bk := (toD G (hid T H) D).nx, rt := (toD G (hid T H) D).rt } _ _ ⟨fun e3 ⟨m', hm, hj⟩ σ3 T3 H3 F3 r3 x3 => ⟨m', hm, T3, e3, F3, r3, hj, x2.trans x3⟩, fun s e q => q, fun e3 q σ3 T3 H3 F3 r3 x3 => q σ3 T3 H3 F3 r3 (x2.trans x3), fun e3 ⟨m', hm, hj⟩ σ3 T3 H3 F3 r3 x3 => ⟨m', hm, T3, e3, F3, r3, hj, x2.trans x3⟩⟩ q⟩
    | false => exact ite_ff (q σ' T2 H2 F2 a.re x2)
  · cases b with
    | true => exact hb.mono { nx := fun e2 => ∃ m', m' < m ∧ J m' e2, ct := fun e2 => ∃ m', m' < m ∧ J m' e2, bk := D.nx, rt := D.rt } _ _ ⟨fun _ q => q, l.rt, l.nx, fun _ q => q⟩ q
    | false => exact l.nx _ q
end
end Fx

namespace Fx
open PySem PySem.Spec PyProof.Rows L2 Evl Lk

/-! ### what a def promises, over trees: the arguments, what is wanted of its value and of the arguments behind it -/
abbrev WD := List Sl → (Sl → List Sl → Prop) → Prop
def gA (K : PySem.W.Frag) (tabs : List Addr) (T : Addr → Prop) (H : Hp) (as : List Sl) (F : Nat → List Addr) (vs : List V) : Gx := ⟨K, tabs, T, H, OwnP (as.map some) F, vs.map some, fun _ => true, fun _ _ => False, fun _ => none⟩
def spW (K : PySem.W.Frag) (tabs : List Addr) (W : WD) : Sp := fun vs H Q _ => ∃ T as F, RE (gA K tabs T H as F vs) T H (vs.map some) (as.map some) F ∧
  W as fun r as' => ∀ v T' H' F' fr, RE (gA K tabs T H as F vs) T' H' (vs.map some) (as'.map some) F' → (∀ j o, as'[j]? = some (.vw o) → as[j]? = some (.vw o) ∧ F' j = F j) → ResS (gA K tabs T H as F vs) T' H' (as'.map some) F' r v fr → Q v H'
/-- the arguments behind the body: what is handed on owned stands in its slot -/
def outA : List Bool → List Sl → Env → List Sl
  | b :: fl, s :: as, e :: env => (if b = true then e.getD s else s) :: outA fl as env
  | _, _, _ => []
def OutOk : List Bool → List Sl → Env → Prop
  | b :: fl, s :: as, e :: env => (if b = true then ∃ o, e = some (.own o) else ∀ o, s ≠ .own o) ∧ OutOk fl as env
  | [], [], _ => True
  | _, _, _ => False
theorem outOk_get : ∀ {fl : List Bool} {as : List Sl} {env : Env}, OutOk fl as env → (outA fl as env).length = as.length ∧ fl.length = as.length ∧ ∀ j s, as[j]? = some s → (fl.getD j false = true ∧ (∃ o, env[j]? = some (some (.own o)) ∧ (outA fl as env)[j]? = some (.own o))) ∨ (fl.getD j false = false ∧ (∀ o, s ≠ .own o) ∧ (outA fl as env)[j]? = some s)
  | [], [], _, _ => ⟨rfl, rfl, fun j s h => by cases h⟩
  | [], _ :: _, _, h => h.elim
  | _ :: _, [], _, h => h.elim
  | _ :: _, _ :: _, [], h => h.elim
  | b :: fl, s :: as, e :: env, h => by
    obtain ⟨h1, h2⟩ := h
    obtain ⟨g1, g2, g3⟩ := outOk_get h2
    refine ⟨by simp only [outA, List.length_cons, g1], by simp only [List.length_cons, g2], fun j t hj => ?_⟩
    cases j with
    | zero =>
      cases hj
      cases b with
      | true =>
        rw [if_pos rfl] at h1
        obtain ⟨o, rfl⟩ := h1
        exact .inl ⟨rfl, o, rfl, rfl⟩
      | false =>
        rw [if_neg (by decide)] at h1
        exact .inr ⟨rfl, h1, rfl⟩
    | succ j => exact g3 j t (by simpa using hj)
def startE (N : List Str) (as : List Sl) : Env := as.map some ++ List.replicate (N.length - as.length) none
theorem map_some_get {α : Type} {l : List α} {j : Nat} {s : α} : (l.map some)[j]? = some (some s) ↔ l[j]? = some s := by
  rw [List.getElem?_map]
  cases l[j]? <;> simp
/-! ### behind a body: the arguments' state -/
def gF (K : PySem.W.Frag) (tabs : List Addr) (N : List Str) (fl : List Bool) (T : Addr → Prop) (H : Hp) (as : List Sl) (F : Nat → List Addr) (vs : List V) (xw : Xv → Env → Prop) : Gx := ⟨K, tabs, T, H, OwnP (as.map some) F, L2.start N vs, fun i => fl.getD i false, xw, fun _ => none⟩
section
variable {K : PySem.W.Frag} {tabs : List Addr} {N : List Str} {fl : List Bool} {T : Addr → Prop} {H : Hp} {as : List Sl} {F : Nat → List Addr} {vs : List V} {xw : Xv → Env → Prop}
theorem ex_none {H : Hp} : Ex (fun _ => none) H := fun _ _ h => by cases h
/-- the frame as it begins -/
theorem in_re (r : RE (gA K tabs T H as F vs) T H (vs.map some) (as.map some) F) : RE (gF K tabs N fl T H as F vs xw) T H (L2.start N vs) (startE N as) F := by
  have ha : as.length = vs.length := by have e := r.len; rwa [List.length_map, List.length_map] at e
  have sg : ∀ j t, (startE N as)[j]? = some (some t) → as[j]? = some t := fun j t h => by
    unfold startE at h
    by_cases hl : j < (as.map some).length
    · rw [List.getElem?_append_left hl] at h
      exact map_some_get.mp h
    · rw [List.getElem?_append_right (by omega), List.getElem?_replicate] at h
      split at h <;> cases h
  have so : ∀ j, IsOwn (startE N as) j → IsOwn (as.map some) j := fun j ⟨o, h⟩ => ⟨o, map_some_get.mpr (sg j _ h)⟩
  refine ⟨r.trk, r.tab, fun j t h => ?_, fun i j n h1 ⟨t, h2⟩ => r.dis i j n (so i h1) ⟨t, map_some_get.mpr (sg j t h2)⟩, .refl r.trk, fun a ⟨j, h1, h2⟩ => .inl ⟨j, so j h1, h2⟩, r.trk, fun _ _ => rfl, ?_, ex_none⟩
  · obtain ⟨v, h1, h2⟩ := r.slot j t (map_some_get.mpr (sg j t h))
    have hj : j < (vs.map some).length := (List.getElem?_eq_some_iff.mp h1).1
    refine ⟨v, ?_, h2⟩
    unfold L2.start
    rw [List.getElem?_append_left hj]
    exact h1
  · unfold startE L2.start
    rw [List.length_append, List.length_append, List.length_map, List.length_map, List.length_replicate, List.length_replicate, ha]
/-- .. as it ends -/
theorem out_re {env : Env} {σ' : L2.St} {T' : Addr → Prop} {H' : Hp} {F' : Nat → List Addr} (r : RE (gA K tabs T H as F vs) T H (vs.map some) (as.map some) F) (oo : OutOk fl as env) (r' : RE (gF K tabs N fl T H as F vs xw) T' H' σ' env F') :
    ∃ F2, RE (gA K tabs T H as F vs) T' H' (vs.map some) ((outA fl as env).map some) F2 ∧ (∀ j o, (outA fl as env)[j]? = some (.vw o) → as[j]? = some (.vw o) ∧ F2 j = F j) ∧
      ∀ s1 v fr, ResS (gF K tabs N fl T H as F vs xw) T' H' env F' s1 v fr → ResS (gA K tabs T H as F vs) T' H' ((outA fl as env).map some) F2 s1 v fr := by
  have ha : as.length = vs.length := by have e := r.len; rwa [List.length_map, List.length_map] at e
  obtain ⟨o1, o2, o3⟩ := outOk_get oo
  -- where a slot of the arguments behind comes from
  have key : ∀ j t, ((outA fl as env).map some)[j]? = some (some t) → (fl.getD j false = true ∧ ∃ o, t = .own o ∧ env[j]? = some (some (.own o))) ∨ (fl.getD j false = false ∧ as[j]? = some t ∧ ∀ o, t ≠ .own o) := fun j t h => by
    have h := map_some_get.mp h
    have hj : j < as.length := by rw [← o1]; exact (List.getElem?_eq_some_iff.mp h).1
    rcases o3 j as[j] (List.getElem?_eq_getElem hj) with ⟨b, o, e1, e2⟩ | ⟨b, n, e2⟩
    · rw [h] at e2
      cases e2
      exact .inl ⟨b, o, rfl, e1⟩
    · rw [h] at e2
      cases e2
      exact .inr ⟨b, List.getElem?_eq_getElem hj, n⟩
  have kOwn : ∀ j, IsOwn ((outA fl as env).map some) j → fl.getD j false = true ∧ IsOwn env j := fun j ⟨o, h⟩ => by
    rcases key j _ h with ⟨b, o', _, e⟩ | ⟨_, _, n⟩
    · exact ⟨b, o', e⟩
    · exact absurd rfl (n o)
  -- a view's own things are not of the frame's
  have nv : ∀ j t, as[j]? = some t → (∀ o, t ≠ .own o) → ∀ a ∈ F j, ¬ (OwnP (as.map some) F a ∨ H a = none) := fun j t hj n a ha h => by
    obtain ⟨v, _, zz⟩ := r.slot j t (map_some_get.mpr hj)
    rcases h with ⟨i, hi, hF⟩ | h
    · refine r.dis i j (fun e => ?_) hi ⟨t, map_some_get.mpr hj⟩ a hF ha
      subst e
      obtain ⟨o, ho⟩ := hi
      have ho := map_some_get.mp ho
      rw [hj] at ho
      cases ho
      exact n o rfl
    · exact r.trk a (zz.sub a ha) h
  refine ⟨fun j => if fl.getD j false = true then F' j else F j, ⟨r'.trk, r'.tab, fun j t h => ?_, fun i j n h1 ⟨t, h2⟩ a ha hb => ?_, r'.st, fun a ⟨j, h1, h2⟩ => ?_, r.trk, fun _ _ => rfl, ?_, ex_none⟩, fun j o h => ?_, fun s1 v fr z => ⟨z.rel, z.nv, fun o e i ⟨t, h⟩ a ha hF => ?_, z.from_⟩⟩
  · rcases key j t h with ⟨b, o, rfl, e⟩ | ⟨b, e, n⟩
    · obtain ⟨u, h1, h2⟩ := r'.slot j _ e
      have hj : j < as.length := by rw [← o1]; exact (List.getElem?_eq_some_iff.mp (map_some_get.mp h)).1
      refine ⟨u, ?_, by simp only [b, if_true]; exact h2⟩
      have p := r'.pin j b
      have p2 : (L2.start N vs)[j]? = (vs.map some)[j]? := by
        unfold L2.start
        rw [List.getElem?_append_left (by rw [List.length_map, ← ha]; exact hj)]
      rw [← p2]
      exact p.symm.trans h1
    · obtain ⟨u, h1, h2⟩ := r.slot j t (map_some_get.mpr e)
      refine ⟨u, h1, ?_⟩
      simp only [b, Bool.false_eq_true, if_false]
      exact h2.chg r'.st r.sub fun a ha hp => nv j t e n a ha (.inl hp)
  · obtain ⟨b, ho⟩ := kOwn i h1
    simp only [b, if_true] at ha
    rcases key j t h2 with ⟨b2, o, rfl, e⟩ | ⟨b2, e, n2⟩
    · simp only [b2, if_true] at hb
      exact r'.dis i j n ho ⟨_, e⟩ a ha hb
    · simp only [b2, Bool.false_eq_true, if_false] at hb
      exact nv j t e n2 a hb (r'.ow a ⟨i, ho, ha⟩)
  · obtain ⟨b, ho⟩ := kOwn j h1
    simp only [b, if_true] at h2
    exact r'.ow a ⟨j, ho, h2⟩
  · rw [List.length_map, List.length_map, o1, ha]
  · rcases key j _ (map_some_get.mpr h) with ⟨b, o', e, _⟩ | ⟨b, e, _⟩
    · cases e
    · exact ⟨e, by simp only [b, Bool.false_eq_true, if_false]⟩
  · rcases key i t h with ⟨b, o', rfl, e2⟩ | ⟨b, e2, n⟩
    · simp only [b, if_true] at hF
      exact z.dis o e i ⟨_, e2⟩ a ha hF
    · simp only [b, Bool.false_eq_true, if_false] at hF
      exact nv i t e2 n a hF (z.from_ o e a ha)
end
section
variable {P : Program} {w : World} {K : PySem.W.Frag} {mg : Str → Option Value} {base : Heap} {x q : Str} {st : Stmt} {N ps : List Str} {k : Nat} {tabs : List Addr} {W : WD}
theorem spW_len {as : List Sl} {vs : List V} {T : Addr → Prop} {H : Hp} {F : Nat → List Addr} (r : RE (gA K tabs T H as F vs) T H (vs.map some) (as.map some) F) : vs.length = as.length := by
  have e := r.len
  rw [List.length_map, List.length_map] at e
  exact e.symm
/-- THE RULE: a def, by its body's reading -/
theorem fx_fn {f : Addr} {fd : FuncData} (fl : List Bool) (F : Fun K x q st f fd) (S : FnScope N ps (defScope st)) (hlen : ∀ as Q, W as Q → as.length = ps.length)
    (hbody : ∀ (cdv : Value) (A : Around) (outer : List PySem.Env) (s : Shared) (H : Hp) (E : XK) (T : Addr → Prop) (P0 : Addr → Prop) (σ0 : L2.St), fd.code = cdv → Room k (A.deeper (envOfC q (defScope st) s.heap.objs.size f cdv)) →
      ∃ ws, GSs (cxOf CX0 P w K mg base N q (defScope st) f cdv A outer s H E).nox ⟨K, tabs, T, H, P0, σ0, fun i => fl.getD i false, fun _ _ => False, fun _ => none⟩ (defBody st) ws ∧
        ∀ as Q, W as Q → ws { nx := fun env => OutOk fl as env ∧ Q (.f .non) (outA fl as env), rt := fun r env => OutOk fl as env ∧ Q r (outA fl as env) } (startE N as)) : FnOk P w K mg base CX0 (k + 1) f fd ps (spW K tabs W) := by
  have lenV : ∀ vs H Q E, spW K tabs W vs H Q E → vs.length = ps.length := fun vs H Q E ⟨T, as, F, r, h⟩ => by
    rw [spW_len r]
    exact hlen as _ h
  suffices main : ∀ (cdv : Value) (A : Around) (outer : List PySem.Env) (s : Shared) (H : Hp) (vs : List V) (Q : VK) (E : XK), fd.code = cdv → Room k (A.deeper (envOfC q (defScope st) s.heap.objs.size f cdv)) → spW K tabs W vs H Q E →
      ∃ t, PSs (cxOf CX0 P w K mg base N q (defScope st) f cdv A outer s H E).nox (defBody st) t ∧ t { nx := fun _ H' => Q .non H', rt := Q } (L2.start N vs) H by
    obtain ⟨oc, od, kV, doc, pm, an, cdv, ct, osl, rfl, lk, hcd⟩ := F.ex
    refine fn_of lk hcd S lenV fun A outer s H vs Q E hr hsp => ?_
    obtain ⟨t, h, q⟩ := main cdv A outer s H vs Q E rfl hr hsp
    exact ⟨t, h.nox, q⟩
  intro cdv A outer s H vs Q E hcd hr h
  obtain ⟨T, as, F, r, hW⟩ := h
  obtain ⟨ws, hs, hq⟩ := hbody cdv A outer s H E T (OwnP (as.map some) F) (L2.start N vs) hcd hr
  refine ⟨_, hs.pss, T, startE N as, F, in_re r, ?_⟩
  let Qs : Sl → List Sl → Prop := fun r as' => ∀ v T' H' F' fr, RE (gA K tabs T H as F vs) T' H' (vs.map some) (as'.map some) F' → (∀ j o, as'[j]? = some (.vw o) → as[j]? = some (.vw o) ∧ F' j = F j) → ResS (gA K tabs T H as F vs) T' H' (as'.map some) F' r v fr → Q v H'
  refine hs.mono { nx := fun env => OutOk fl as env ∧ Qs (.f .non) (outA fl as env), rt := fun r env => OutOk fl as env ∧ Qs r (outA fl as env) } _ _ ⟨fun env ⟨oo, q⟩ σ' T' H' F' r' _ => ?_, fun s1 env ⟨oo, q⟩ v σ' T' H' F' fr r' z => ?_, fun _ h => h.elim, fun _ h => h.elim⟩ (hq as _ hW)
  · obtain ⟨F2, g1, g2, g3⟩ := out_re r oo r'
    exact q .non T' H' F2 [] g1 g2 (g3 (.f .non) .non [] ⟨⟨.non, rfl⟩, nofun, nofun, nofun⟩)
  · obtain ⟨F2, g1, g2, g3⟩ := out_re r oo r'
    exact q v T' H' F2 fr g1 g2 (g3 s1 v fr z)
end
/-! ### defs that may raise -/
abbrev WDX := List Sl → (Sl → List Sl → Prop) → (Xv → List Sl → Prop) → Prop
/-- an exception's own things: its class, its number -/
def XvR (H : Hp) (cls : Value) (d : Option Addr) (x : Xv) : Prop := cls = .ref x.C ∧ RowR H d x.row
def spX (K : PySem.W.Frag) (tabs : List Addr) (W : WDX) : Sp := fun vs H Q E => ∃ T as F, RE (gA K tabs T H as F vs) T H (vs.map some) (as.map some) F ∧
  W as (fun r as' => ∀ v T' H' F' fr, RE (gA K tabs T H as F vs) T' H' (vs.map some) (as'.map some) F' → (∀ j o, as'[j]? = some (.vw o) → as[j]? = some (.vw o) ∧ F' j = F j) → ResS (gA K tabs T H as F vs) T' H' (as'.map some) F' r v fr → Q v H')
    fun x as' => ∀ cls d T' H' F', RE (gA K tabs T H as F vs) T' H' (vs.map some) (as'.map some) F' → (∀ j o, as'[j]? = some (.vw o) → as[j]? = some (.vw o) ∧ F' j = F j) → XvR (hid T' H') cls d x → E cls d H'
/-- what is wanted of exceptions, over the frame's slots -/
def wishX (G : Gx) : WX := fun cls d σ H => ∃ T env F x, RE G T H σ env F ∧ XvR (hid T H) cls d x ∧ G.xw x env
def GTk (X : Cx) (G : Gx) : Prop := Takes X (wishX G)
section
variable {P : Program} {w : World} {K : PySem.W.Frag} {mg : Str → Option Value} {base : Heap} {x q : Str} {st : Stmt} {N ps : List Str} {k : Nat} {tabs : List Addr} {W : WDX}
theorem fx_fnX {f : Addr} {fd : FuncData} (fl : List Bool) (F : Fun K x q st f fd) (S : FnScope N ps (defScope st)) (hlen : ∀ as Q B, W as Q B → as.length = ps.length)
    (hbody : ∀ (cdv : Value) (A : Around) (outer : List PySem.Env) (s : Shared) (H : Hp) (E : XK) (T : Addr → Prop) (P0 : Addr → Prop) (σ0 : L2.St) (as : List Sl) (Q : Sl → List Sl → Prop) (B : Xv → List Sl → Prop), fd.code = cdv → Room k (A.deeper (envOfC q (defScope st) s.heap.objs.size f cdv)) →
      GTk (cxOf (L2.CX P w) P w K mg base N q (defScope st) f cdv A outer s H E) ⟨K, tabs, T, H, P0, σ0, fun i => fl.getD i false, fun x env => OutOk fl as env ∧ B x (outA fl as env), fun _ => none⟩ → W as Q B →
      ∃ ws, GSs (cxOf (L2.CX P w) P w K mg base N q (defScope st) f cdv A outer s H E) ⟨K, tabs, T, H, P0, σ0, fun i => fl.getD i false, fun x env => OutOk fl as env ∧ B x (outA fl as env), fun _ => none⟩ (defBody st) ws ∧
        ws { nx := fun env => OutOk fl as env ∧ Q (.f .non) (outA fl as env), rt := fun r env => OutOk fl as env ∧ Q r (outA fl as env) } (startE N as)) : FnOk P w K mg base (L2.CX P w) (k + 1) f fd ps (spX K tabs W) := by
  have lenV : ∀ vs H Q E, spX K tabs W vs H Q E → vs.length = ps.length := fun vs H Q E ⟨T, as, F, r, h⟩ => by
    rw [spW_len r]
    exact hlen as _ _ h
  suffices main : ∀ (cdv : Value) (A : Around) (outer : List PySem.Env) (s : Shared) (H : Hp) (vs : List V) (Q : VK) (E : XK), fd.code = cdv → Room k (A.deeper (envOfC q (defScope st) s.heap.objs.size f cdv)) → spX K tabs W vs H Q E →
      ∃ t, PSs (cxOf (L2.CX P w) P w K mg base N q (defScope st) f cdv A outer s H E) (defBody st) t ∧ t { nx := fun _ H' => Q .non H', rt := Q } (L2.start N vs) H by
    obtain ⟨oc, od, kV, doc, pm, an, cdv, ct, osl, rfl, lk, hcd⟩ := F.ex
    exact fn_of lk hcd S lenV fun A outer s H vs Q E hr hsp => main cdv A outer s H vs Q E rfl hr hsp
  intro cdv A outer s H vs Q E hcd hr h
  obtain ⟨T, as, F, r, hW⟩ := h
  let Qs : Sl → List Sl → Prop := fun r as' => ∀ v T' H' F' fr, RE (gA K tabs T H as F vs) T' H' (vs.map some) (as'.map some) F' → (∀ j o, as'[j]? = some (.vw o) → as[j]? = some (.vw o) ∧ F' j = F j) → ResS (gA K tabs T H as F vs) T' H' (as'.map some) F' r v fr → Q v H'
  let Bs : Xv → List Sl → Prop := fun x as' => ∀ cls d T' H' F', RE (gA K tabs T H as F vs) T' H' (vs.map some) (as'.map some) F' → (∀ j o, as'[j]? = some (.vw o) → as[j]? = some (.vw o) ∧ F' j = F j) → XvR (hid T' H') cls d x → E cls d H'
  have tk : GTk (cxOf (L2.CX P w) P w K mg base N q (defScope st) f cdv A outer s H E) (gF K tabs N fl T H as F vs fun x env => OutOk fl as env ∧ Bs x (outA fl as env)) := by
    refine (L2.takes_of (X := cxOf (L2.CX P w) P w K mg base N q (defScope st) f cdv A outer s H E) (E := E) rfl rfl rfl rfl).imp fun cls d σ H1 ⟨T1, env, F1, y, r1, hy, oo, hB⟩ => ?_
    obtain ⟨F2, g1, g2, _⟩ := out_re r oo r1
    exact hB cls d T1 H1 F2 g1 g2 hy
  obtain ⟨ws, hs, hq⟩ := hbody cdv A outer s H E T (OwnP (as.map some) F) (L2.start N vs) as Qs Bs hcd hr tk hW
  refine ⟨_, hs.pss, T, startE N as, F, in_re r, ?_⟩
  refine hs.mono { nx := fun env => OutOk fl as env ∧ Qs (.f .non) (outA fl as env), rt := fun r env => OutOk fl as env ∧ Qs r (outA fl as env) } _ _ ⟨fun env ⟨oo, q⟩ σ' T' H' F' r' _ => ?_, fun s1 env ⟨oo, q⟩ v σ' T' H' F' fr r' z => ?_, fun _ h => h.elim, fun _ h => h.elim⟩ hq
  · obtain ⟨F2, g1, g2, g3⟩ := out_re r oo r'
    exact q .non T' H' F2 [] g1 g2 (g3 (.f .non) .non [] ⟨⟨.non, rfl⟩, nofun, nofun, nofun⟩)
  · obtain ⟨F2, g1, g2, g3⟩ := out_re r oo r'
    exact q v T' H' F2 fr g1 g2 (g3 s1 v fr z)
end
end Fx

namespace Fx
open PySem PySem.Spec PyProof.Rows L2 Evl Lk

/-! ### a call -/
def resA : List Ag → Env → Option (List Sl)
  | [], _ => some []
  | .v (.vw _) :: _, _ => none
  | .v s :: as, e => (resA as e).map (s :: ·)
  | .slot i true :: as, e => match e[i]? with
    | some (some (.own o)) => (resA as e).map (.own o :: ·)
    | _ => none
  | .slot i false :: as, e => match e[i]? with
    | some (some (.own o)) => (resA as e).map (.vw o :: ·)
    | some (some s) => (resA as e).map (s :: ·)
    | _ => none
def slotIs (i : Nat) : Ag → Bool
  | .slot k _ => k == i
  | _ => false
def agOk : List Ag → Bool
  | [] => true
  | .slot i true :: as => !as.any (slotIs i) && agOk as
  | .slot i false :: as => !as.any (fun a => match a with | .slot k true => k == i | _ => false) && agOk as
  | _ :: as => agOk as
def idxOwn : List Ag → Nat → Option Nat
  | [], _ => none
  | .slot k true :: as, i => if k = i then some 0 else (idxOwn as i).map (· + 1)
  | _ :: as, i => (idxOwn as i).map (· + 1)
def wbGo (ags : List Ag) (as' : List Sl) : Nat → Env → Env
  | _, [] => []
  | i, s :: e => (match idxOwn ags i with | some j => as'[j]? | none => s) :: wbGo ags as' (i + 1) e
def wCall (W : WD) (wa : WA) : WE := fun env Q => wa env fun ags e => ∃ as, resA ags e = some as ∧ agOk ags = true ∧ W as fun r as' => as'.length = as.length ∧ Q r (wbGo ags as' 0 e)
def MonoD (W : WD) : Prop := ∀ as (Q Q' : Sl → List Sl → Prop), (∀ r as', Q r as' → Q' r as') → W as Q → W as Q'
theorem wbGo_len (ags : List Ag) (as' : List Sl) : ∀ (i : Nat) (e : Env), (wbGo ags as' i e).length = e.length
  | _, [] => rfl
  | i, _ :: e => by rw [wbGo, List.length_cons, wbGo_len ags as' (i + 1) e, List.length_cons]
theorem wbGo_get (ags : List Ag) (as' : List Sl) : ∀ (i : Nat) (e : Env) (k : Nat), k < e.length → (wbGo ags as' i e)[k]? = match idxOwn ags (i + k) with | some j => some as'[j]? | none => e[k]?
  | i, [], k, h => absurd h (Nat.not_lt_zero _)
  | i, s :: e, 0, h => by
    rw [wbGo]
    show some _ = _
    cases idxOwn ags i <;> rfl
  | i, s :: e, k + 1, h => by
    rw [wbGo, List.getElem?_cons_succ, wbGo_get ags as' (i + 1) e k (by simpa using h)]
    have : i + 1 + k = i + (k + 1) := by omega
    rw [this]
    cases idxOwn ags (i + (k + 1)) <;> rfl
theorem idxOwn_some : ∀ {ags : List Ag} {i j : Nat}, idxOwn ags i = some j → ags[j]? = some (.slot i true)
  | [], i, j, h => by cases h
  | .slot k true :: as, i, j, h => by
    unfold idxOwn at h
    by_cases e : k = i
    · rw [if_pos e] at h
      cases h
      subst e
      rfl
    · rw [if_neg e] at h
      cases q : idxOwn as i with
      | none => rw [q] at h; cases h
      | some m =>
        rw [q] at h
        cases h
        have z := idxOwn_some q
        simpa using z
  | .slot k false :: as, i, j, h => by
    unfold idxOwn at h
    cases q : idxOwn as i with
    | none => rw [q] at h; cases h
    | some m =>
      rw [q] at h
      cases h
      have z := idxOwn_some q
      simpa using z
  | .v s :: as, i, j, h => by
    unfold idxOwn at h
    cases q : idxOwn as i with
    | none => rw [q] at h; cases h
    | some m =>
      rw [q] at h
      cases h
      have z := idxOwn_some q
      simpa using z
theorem idxOwn_none : ∀ {ags : List Ag} {i j : Nat}, idxOwn ags i = none → ags[j]? ≠ some (.slot i true)
  | [], i, j, h => by simp
  | .slot k true :: as, i, j, h => by
    unfold idxOwn at h
    by_cases e : k = i
    · rw [if_pos e] at h
      cases h
    · rw [if_neg e] at h
      cases j with
      | zero => intro z; cases z; exact e rfl
      | succ j =>
        have z := idxOwn_none (ags := as) (i := i) (j := j) (by simpa using h)
        simpa using z
  | .slot k false :: as, i, j, h => by
    unfold idxOwn at h
    cases j with
    | zero => intro z; cases z
    | succ j =>
      have z := idxOwn_none (ags := as) (i := i) (j := j) (by simpa using h)
      simpa using z
  | .v s :: as, i, j, h => by
    unfold idxOwn at h
    cases j with
    | zero => intro z; cases z
    | succ j =>
      have z := idxOwn_none (ags := as) (i := i) (j := j) (by simpa using h)
      simpa using z
/-- an argument, resolved -/
theorem resA_get : ∀ {ags : List Ag} {e : Env} {as : List Sl}, resA ags e = some as → as.length = ags.length ∧ ∀ (j : Nat) (s : Sl), as[j]? = some s →
    (ags[j]? = some (Ag.v s) ∧ ∀ o, s ≠ .vw o) ∨ (∃ (i : Nat) (o : O), ags[j]? = some (Ag.slot i true) ∧ s = .own o ∧ e[i]? = some (some (.own o))) ∨ (∃ (i : Nat) (t : Sl), ags[j]? = some (Ag.slot i false) ∧ e[i]? = some (some t) ∧ (∀ o, s ≠ .own o) ∧ ((∃ o, t = .own o ∧ s = .vw o) ∨ t = s))
  | [], e, as, h => by
    cases h
    exact ⟨rfl, fun j s h => by cases h⟩
  | .v s :: ags, e, as, h => by
    have h : ∃ as1, resA ags e = some as1 ∧ as = s :: as1 ∧ ∀ o, s ≠ .vw o := by
      cases s with
      | vw o => cases h
      | f d =>
        unfold resA at h
        cases q : resA ags e with
        | none => rw [q] at h; cases h
        | some as1 => rw [q] at h; cases h; exact ⟨_, rfl, rfl, nofun⟩
      | own d =>
        unfold resA at h
        cases q : resA ags e with
        | none => rw [q] at h; cases h
        | some as1 => rw [q] at h; cases h; exact ⟨_, rfl, rfl, nofun⟩
    obtain ⟨as1, h1, rfl, nv⟩ := h
    obtain ⟨l, g⟩ := resA_get h1
    refine ⟨by simp only [List.length_cons, l], fun j t hj => ?_⟩
    cases j with
    | zero => cases hj; exact .inl ⟨rfl, nv⟩
    | succ j => exact g j t (by simpa using hj)
  | .slot i true :: ags, e, as, h => by
    unfold resA at h
    split at h
    · rename_i o ho
      cases q : resA ags e with
      | none => rw [q] at h; cases h
      | some as1 =>
        rw [q] at h
        cases h
        obtain ⟨l, g⟩ := resA_get q
        refine ⟨by simp only [List.length_cons, l], fun j t hj => ?_⟩
        cases j with
        | zero => cases hj; exact .inr (.inl ⟨i, o, rfl, rfl, ho⟩)
        | succ j => exact g j t (by simpa using hj)
    · cases h
  | .slot i false :: ags, e, as, h => by
    unfold resA at h
    split at h
    · rename_i o ho
      cases q : resA ags e with
      | none => rw [q] at h; cases h
      | some as1 =>
        rw [q] at h
        cases h
        obtain ⟨l, g⟩ := resA_get q
        refine ⟨by simp only [List.length_cons, l], fun j t hj => ?_⟩
        cases j with
        | zero => cases hj; exact .inr (.inr ⟨i, _, rfl, ho, nofun, .inl ⟨o, rfl, rfl⟩⟩)
        | succ j => exact g j t (by simpa using hj)
    · rename_i s hn ho
      cases q : resA ags e with
      | none => rw [q] at h; cases h
      | some as1 =>
        rw [q] at h
        cases h
        obtain ⟨l, g⟩ := resA_get q
        refine ⟨by simp only [List.length_cons, l], fun j t hj => ?_⟩
        cases j with
        | zero => cases hj; exact .inr (.inr ⟨i, _, rfl, ho, fun o e => hn o (by rw [e]), .inr rfl⟩)
        | succ j => exact g j t (by simpa using hj)
    · cases h
theorem agOk_get : ∀ {ags : List Ag}, agOk ags = true → ∀ {j k i : Nat} {b : Bool}, j ≠ k → ags[j]? = some (.slot i true) → ags[k]? = some (.slot i b) → False
  | [], _, j, k, i, b, n, h1, h2 => by cases h1
  | a :: ags, h, j, k, i, b, n, h1, h2 => by
    have hr : agOk ags = true := by
      cases a with
      | v s => exact h
      | slot m c => cases c <;> (unfold agOk at h; rw [Bool.and_eq_true] at h; exact h.2)
    cases j with
    | zero =>
      cases h1
      cases k with
      | zero => exact n rfl
      | succ k =>
        unfold agOk at h
        rw [Bool.and_eq_true] at h
        have m := List.mem_of_getElem? (show ags[k]? = some (.slot i b) from by simpa using h2)
        have q := h.1
        rw [Bool.not_eq_true'] at q
        have z : ags.any (slotIs i) = true := List.any_eq_true.mpr ⟨_, m, by simp [slotIs]⟩
        rw [q] at z
        cases z
    | succ j =>
      cases k with
      | zero =>
        cases h2
        have m := List.mem_of_getElem? (show ags[j]? = some (.slot i true) from by simpa using h1)
        cases b with
        | true =>
          unfold agOk at h
          rw [Bool.and_eq_true] at h
          have q := h.1
          rw [Bool.not_eq_true'] at q
          have z : ags.any (slotIs i) = true := List.any_eq_true.mpr ⟨_, m, by simp [slotIs]⟩
          rw [q] at z
          cases z
        | false =>
          unfold agOk at h
          rw [Bool.and_eq_true] at h
          have q := h.1
          rw [Bool.not_eq_true'] at q
          have z : ags.any (fun a => match a with | .slot k true => k == i | _ => false) = true := List.any_eq_true.mpr ⟨_, m, by simp⟩
          rw [q] at z
          cases z
      | succ k => exact agOk_get hr (fun e => n (by rw [e])) (show ags[j]? = some (.slot i true) from by simpa using h1) (show ags[k]? = some (.slot i b) from by simpa using h2)
/-- the footprints of the arguments -/
def argF (ags : List Ag) (Fa F : Nat → List Addr) (j : Nat) : List Addr := match ags[j]? with
  | some (.slot i _) => F i
  | _ => Fa j
section
variable {X : Cx} {G : Gx} {σ : L2.St} {T0 T1 : Addr → Prop} {H0 H1 : Hp} {e0 e1 : Env} {F0 F1 : Nat → List Addr} {ags : List Ag} {vs : List V} {Fa : Nat → List Addr} {as : List Sl}
theorem argF_v {j : Nat} {s : Sl} (h : ags[j]? = some (.v s)) : argF ags Fa F1 j = Fa j := by unfold argF; rw [h]
theorem argF_s {j i : Nat} {b : Bool} (h : ags[j]? = some (.slot i b)) : argF ags Fa F1 j = F1 i := by unfold argF; rw [h]
theorem call_args (r : RE G T1 H1 σ e1 F1) (z : ArgR G σ T0 H0 e0 F0 T1 H1 e1 F1 ags vs Fa) (hr : resA ags e1 = some as) (ok : agOk ags = true) :
    RE (gA G.K G.tabs T1 H1 as (argF ags Fa F1) vs) T1 H1 (vs.map some) (as.map some) (argF ags Fa F1) := by
  obtain ⟨hl, g⟩ := resA_get hr
  have sl : ∀ j s, as[j]? = some s → ∃ v, vs[j]? = some v ∧ SlR G T1 H1 s v (argF ags Fa F1 j) := fun j s hj => by
    rcases g j s hj with ⟨ha, nv⟩ | ⟨i, o, ha, rfl, he⟩ | ⟨i, t, ha, he, no, ht⟩
    · obtain ⟨v, h1, h2, _⟩ := z.val j s ha
      exact ⟨v, h1, by rw [argF_v ha]; exact h2⟩
    · obtain ⟨v, h1, h2⟩ := z.slt j i true ha
      obtain ⟨v', h3, h4⟩ := r.slot i _ he
      rw [h1] at h3
      cases h3
      exact ⟨v, h2, by rw [argF_s ha]; exact h4⟩
    · obtain ⟨v, h1, h2⟩ := z.slt j i false ha
      obtain ⟨v', h3, h4⟩ := r.slot i _ he
      rw [h1] at h3
      cases h3
      refine ⟨v, h2, ?_⟩
      rw [argF_s ha]
      rcases ht with ⟨o, rfl, rfl⟩ | rfl
      · exact h4
      · exact h4
  refine ⟨r.trk, r.tab, fun j s hj => ?_, fun j k n ⟨o, hj⟩ ⟨s, hk⟩ a ha hb => ?_, .refl r.trk, fun a h => .inl h, r.trk, fun _ _ => rfl, by rw [List.length_map, List.length_map, hl, z.len], ex_none⟩
  · obtain ⟨v, h1, h2⟩ := sl j s (map_some_get.mp hj)
    exact ⟨v, map_some_get.mpr h1, h2⟩
  · have hj := map_some_get.mp hj
    have hk := map_some_get.mp hk
    rcases g j _ hj with ⟨ga, _⟩ | ⟨i, o', ga, _, he⟩ | ⟨i, t, _, _, no, _⟩
    · rw [argF_v ga] at ha
      obtain ⟨d1, d2⟩ := z.dis j o ga
      rcases g k _ hk with ⟨gb, _⟩ | ⟨i, o', gb, _, he⟩ | ⟨i, t, gb, he, _, _⟩
      · rw [argF_v gb] at hb
        exact d2 k s (Ne.symm n) gb a ha hb
      · rw [argF_s gb] at hb
        exact d1 i ⟨_, he⟩ a ha hb
      · rw [argF_s gb] at hb
        exact d1 i ⟨_, he⟩ a ha hb
    · rw [argF_s ga] at ha
      rcases g k _ hk with ⟨gb, nv⟩ | ⟨i', o'', gb, _, he'⟩ | ⟨i', t, gb, he', _, _⟩
      · rw [argF_v gb] at hb
        cases s with
        | f d =>
          obtain ⟨v, _, q, _⟩ := z.val k _ gb
          rw [q.2] at hb
          cases hb
        | own o3 => exact (z.dis k o3 gb).1 i ⟨_, he⟩ a hb ha
        | vw o3 => exact nv o3 rfl
      · rw [argF_s gb] at hb
        by_cases e : i = i'
        · subst e; exact agOk_get ok n ga gb
        · exact r.dis i i' e ⟨_, he⟩ ⟨_, he'⟩ a ha hb
      · rw [argF_s gb] at hb
        by_cases e : i = i'
        · subst e; exact agOk_get ok n ga gb
        · exact r.dis i i' e ⟨_, he⟩ ⟨_, he'⟩ a ha hb
    · exact no o rfl
/-- what the callee may change -/
theorem call_own (z : ArgR G σ T0 H0 e0 F0 T1 H1 e1 F1 ags vs Fa) (hr : resA ags e1 = some as) {a : Addr} (h : OwnP (as.map some) (argF ags Fa F1) a) :
    (∃ (i j : Nat), ags[j]? = some (Ag.slot i true) ∧ IsOwn e1 i ∧ a ∈ F1 i) ∨ ∃ (j : Nat) (o : O), ags[j]? = some (Ag.v (.own o)) ∧ a ∈ Fa j := by
  obtain ⟨hl, g⟩ := resA_get hr
  obtain ⟨j, ⟨o, hj⟩, ha⟩ := h
  have hj := map_some_get.mp hj
  rcases g j _ hj with ⟨ga, _⟩ | ⟨i, o', ga, _, he⟩ | ⟨i, t, _, _, no, _⟩
  · rw [argF_v ga] at ha
    exact .inr ⟨j, o, ga, ha⟩
  · rw [argF_s ga] at ha
    exact .inl ⟨i, j, ga, ⟨_, he⟩, ha⟩
  · exact absurd rfl (no o)
theorem call_att {as' : List Sl} {T' : Addr → Prop} {H' : Hp} {F' : Nat → List Addr} {rs : Sl} {v : V} {fr : List Addr} (r0 : RE G T0 H0 σ e0 F0) (a1 : Att G σ T0 H0 e0 F0 T1 H1 e1 F1) (z : ArgR G σ T0 H0 e0 F0 T1 H1 e1 F1 ags vs Fa) (hr : resA ags e1 = some as) (ok : agOk ags = true)
    (hl' : as'.length = as.length) (r' : RE (gA G.K G.tabs T1 H1 as (argF ags Fa F1) vs) T' H' (vs.map some) (as'.map some) F') (hv : ∀ (j : Nat) (o : O), as'[j]? = some (.vw o) → as[j]? = some (.vw o) ∧ F' j = argF ags Fa F1 j)
    (zs : ResS (gA G.K G.tabs T1 H1 as (argF ags Fa F1) vs) T' H' (as'.map some) F' rs v fr) :
    ∃ F2, Att G σ T0 H0 e0 F0 T' H' (wbGo ags as' 0 e1) F2 ∧ Res G T0 H0 e0 F0 T' H' (wbGo ags as' 0 e1) F2 rs v fr := by
  obtain ⟨hl, g⟩ := resA_get hr
  have r1 := a1.re
  have ch : Chg T1 H1 (OwnP (as.map some) (argF ags Fa F1)) T' H' := r'.st
  have own0 : ∀ a, OwnP (as.map some) (argF ags Fa F1) a → OwnP e0 F0 a ∨ H0 a = none := fun a h => by
    rcases call_own z hr h with ⟨i, j, _, hi, ha⟩ | ⟨j, o, hj, ha⟩
    · exact a1.own a ⟨i, hi, ha⟩
    · exact z.from_ j o hj a ha
  have dom0 : ∀ a, H1 a = none → H0 a = none := fun a h => by
    cases e : H0 a with
    | none => rfl
    | some u => exact absurd h (a1.chg.dom a (by rw [e]; exact nofun))
  have subC : Sub T1 (OwnP (as.map some) (argF ags Fa F1)) := (call_args r1 z hr ok).sub
  -- what stays in the frame is not the callee's
  have K3 : ∀ i s, e1[i]? = some (some s) → idxOwn ags i = none → ∀ a ∈ F1 i, ¬ (OwnP (as.map some) (argF ags Fa F1) a ∨ H1 a = none) := fun i s hi hn a ha h => by
    rcases h with h | h
    · rcases call_own z hr h with ⟨i', j, hj, ho, ha'⟩ | ⟨j, o, hj, ha'⟩
      · have e : i' ≠ i := fun e => idxOwn_none hn (by rw [← e]; exact hj)
        exact r1.dis i' i e ho ⟨_, hi⟩ a ha' ha
      · exact (z.dis j o hj).1 i ⟨_, hi⟩ a ha' ha
    · obtain ⟨v, _, q⟩ := r1.slot i s hi
      exact r1.trk a (q.sub a ha) h
  have slot : ∀ i s, (wbGo ags as' 0 e1)[i]? = some (some s) → i < e1.length ∧ ((∃ j, idxOwn ags i = some j ∧ as'[j]? = some s) ∨ (idxOwn ags i = none ∧ e1[i]? = some (some s))) := fun i s h => by
    have hi : i < e1.length := by rw [← wbGo_len ags as' 0 e1]; exact (List.getElem?_eq_some_iff.mp h).1
    rw [wbGo_get ags as' 0 e1 i hi, Nat.zero_add] at h
    cases q : idxOwn ags i with
    | none => rw [q] at h; exact ⟨hi, .inr ⟨rfl, h⟩⟩
    | some j => rw [q] at h; exact ⟨hi, .inl ⟨j, rfl, Option.some.inj h⟩⟩
  let F2 : Nat → List Addr := fun i => match idxOwn ags i with | some j => F' j | none => F1 i
  have F2s : ∀ {i j}, idxOwn ags i = some j → F2 i = F' j := fun {i j} h => by show (match idxOwn ags i with | some j => F' j | none => F1 i) = _; rw [h]
  have F2n : ∀ {i}, idxOwn ags i = none → F2 i = F1 i := fun {i} h => by show (match idxOwn ags i with | some j => F' j | none => F1 i) = _; rw [h]
  have asOwn : ∀ {i j}, idxOwn ags i = some j → ∃ o, as[j]? = some (.own o) := fun {i j} h => by
    have ha := idxOwn_some h
    have hj : j < as.length := by rw [hl]; exact (List.getElem?_eq_some_iff.mp ha).1
    rcases g j _ (List.getElem?_eq_getElem hj) with ⟨q, _⟩ | ⟨i', o, _, e, _⟩ | ⟨i', t, q, _, _, _⟩
    · rw [ha] at q; cases q
    · exact ⟨o, by rw [List.getElem?_eq_getElem hj, e]⟩
    · rw [ha] at q; cases q
  have notvw : ∀ {i j o}, idxOwn ags i = some j → as'[j]? ≠ some (.vw o) := fun {i j o} h z2 => by
    obtain ⟨q, _⟩ := hv j o z2
    obtain ⟨o', q'⟩ := asOwn h
    rw [q] at q'
    cases q'
  have c0 : Chg T0 H0 (OwnP e0 F0) T' H' := a1.chg.trans r0.trk ch own0
  have re : RE G T' H' σ (wbGo ags as' 0 e1) F2 := by
    refine ⟨r'.trk, r'.tab, fun i s h => ?_, fun i k n ⟨o, hi⟩ ⟨s, hk⟩ a ha hb => ?_, r1.st.trans r1.t0 ch fun a h => ?_, fun a ⟨i, ⟨o, hi⟩, ha⟩ => ?_, r1.t0, r1.pin, by rw [wbGo_len]; exact r1.len, r1.hx.trans (ch.hid subC)⟩
    · obtain ⟨_, ⟨j, hj, hs⟩ | ⟨hn, hs⟩⟩ := slot i s h
      · obtain ⟨v, h1, h2⟩ := r'.slot j s (map_some_get.mpr hs)
        obtain ⟨v', h3, h4⟩ := z.slt j i true (idxOwn_some hj)
        have h1 := map_some_get.mp h1
        rw [h4] at h1
        cases h1
        exact ⟨_, h3, by rw [F2s hj]; exact h2⟩
      · obtain ⟨v, h1, h2⟩ := r1.slot i s hs
        exact ⟨v, h1, by rw [F2n hn]; exact h2.chg ch subC fun a ha hp => K3 i s hs hn a ha (.inl hp)⟩
    · obtain ⟨_, ⟨j, hj, hs⟩ | ⟨hn, hs⟩⟩ := slot i _ hi
      · rw [F2s hj] at ha
        obtain ⟨_, ⟨j', hj', hs'⟩ | ⟨hn', hs'⟩⟩ := slot k _ hk
        · rw [F2s hj'] at hb
          refine r'.dis j j' (fun e => n ?_) ⟨_, map_some_get.mpr hs⟩ ⟨_, map_some_get.mpr hs'⟩ a ha hb
          subst e
          have q := idxOwn_some hj
          rw [idxOwn_some hj'] at q
          cases q
          rfl
        · rw [F2n hn'] at hb
          exact K3 k _ hs' hn' a hb (r'.ow a ⟨j, ⟨_, map_some_get.mpr hs⟩, ha⟩)
      · rw [F2n hn] at ha
        obtain ⟨_, ⟨j', hj', hs'⟩ | ⟨hn', hs'⟩⟩ := slot k _ hk
        · rw [F2s hj'] at hb
          cases s with
          | f d =>
            obtain ⟨v, _, q⟩ := r'.slot j' _ (map_some_get.mpr hs')
            rw [q.2] at hb
            cases hb
          | own o' => exact K3 i _ hs hn a ha (r'.ow a ⟨j', ⟨_, map_some_get.mpr hs'⟩, hb⟩)
          | vw o' => exact notvw hj' hs'
        · rw [F2n hn'] at hb
          exact r1.dis i k n ⟨_, hs⟩ ⟨_, hs'⟩ a ha hb
    · rcases own0 a h with q | q
      · exact r0.ow a q
      · refine .inr ?_
        cases e : G.H0 a with
        | none => rfl
        | some u => exact absurd q (r0.st.dom a (by rw [e]; exact nofun))
    · have key : G.P0 a ∨ H1 a = none → G.P0 a ∨ G.H0 a = none := fun h => h.imp id fun q => by
        cases e : G.H0 a with
        | none => rfl
        | some u => exact absurd q (r1.st.dom a (by rw [e]; exact nofun))
      obtain ⟨_, ⟨j, hj, hs⟩ | ⟨hn, hs⟩⟩ := slot i _ hi
      · rw [F2s hj] at ha
        rcases r'.ow a ⟨j, ⟨_, map_some_get.mpr hs⟩, ha⟩ with q | q
        · rcases own0 a q with q | q
          · exact r0.ow a q
          · refine .inr ?_
            cases e : G.H0 a with
            | none => rfl
            | some u => exact absurd q (r0.st.dom a (by rw [e]; exact nofun))
        · exact key (.inr q)
      · rw [F2n hn] at ha
        exact r1.ow a ⟨i, ⟨_, hs⟩, ha⟩
  refine ⟨F2, ⟨c0, re, fun a ⟨i, ⟨o, hi⟩, ha⟩ => ?_, fun i o h => ?_⟩, ⟨zs.rel, fun o e i ⟨s, hi⟩ a ha hF => ?_, fun o e a ha => ?_⟩⟩
  · obtain ⟨_, ⟨j, hj, hs⟩ | ⟨hn, hs⟩⟩ := slot i _ hi
    · rw [F2s hj] at ha
      rcases r'.ow a ⟨j, ⟨_, map_some_get.mpr hs⟩, ha⟩ with q | q
      · exact own0 a q
      · exact .inr (dom0 a q)
    · rw [F2n hn] at ha
      exact a1.own a ⟨i, ⟨_, hs⟩, ha⟩
  · obtain ⟨_, ⟨j, hj, hs⟩ | ⟨hn, hs⟩⟩ := slot i _ h
    · exact absurd hs (notvw hj)
    · obtain ⟨h1, h2⟩ := a1.vw i o hs
      exact ⟨h1, by rw [F2n hn]; exact h2⟩
  · obtain ⟨_, ⟨j, hj, hs⟩ | ⟨hn, hs⟩⟩ := slot i _ hi
    · rw [F2s hj] at hF
      exact zs.dis o e j ⟨_, map_some_get.mpr hs⟩ a ha hF
    · rw [F2n hn] at hF
      exact K3 i _ hs hn a hF (zs.from_ o e a ha)
  · rcases zs.from_ o e a ha with q | q
    · exact own0 a q
    · exact .inr (dom0 a q)
/-- f(e, ..) -/
theorem ge_call {x : Str} {k j : Nat} {W : WD} {tabs : List Addr} {p pos : Pos} {e : Expr} {es : List Expr} {wa : WA} (c : Cal X.prog X.w X.K X.mg X.base k x (spW X.K tabs W)) (hr : Room j X.A) (hk : k ≤ j) (hg : Gl X x) (hK : X.K = G.K) (ht : tabs = G.tabs) (mw : MonoD W) (ha : GA X G (e :: es) wa)
    (hdb : (x == ("__debug__" : Str)) = false := by decide) (he : starEach (e :: es) X.env = (false, eval e X.env) :: starEach es X.env := by rfl) (hpl : (backTo pos (starEach es X.env)).any (·.1) = false := by rfl) :
    GE X G (.Call (.Name x p) (e :: es) [] pos) (wCall W wa) := by
  subst ht
  refine ⟨pe_imp (pe_c c hr hk hg ha.pa hdb he hpl) fun σ H Q ⟨T, env, F, r, q⟩ => ⟨T, env, F, r, ha.mono _ _ _ (fun ags e1 ⟨as, h1, h2, h3⟩ vs T1 H1 F1 Fa a1 z1 => ?_) q⟩, fun env Q Q' i q => ha.mono _ _ _ (fun ags e1 ⟨as, h1, h2, h3⟩ => ⟨as, h1, h2, mw _ _ _ (fun r as' ⟨l, q⟩ => ⟨l, i _ _ q⟩) h3⟩) q⟩
  show spW X.K G.tabs W (vs ++ []) H1 Q E0
  rw [List.append_nil, hK]
  refine ⟨T1, as, argF ags Fa F1, call_args a1.re z1 h1 h2, mw _ _ _ (fun rs as' ⟨hl, q⟩ v T' H' F' fr r' hv zs => ?_) h3⟩
  obtain ⟨F2, a2, z2⟩ := call_att r a1 z1 h1 h2 hl r' hv zs
  exact q v T' H' F2 fr a2 z2
end
end Fx

namespace Fx
open PySem PySem.Spec PyProof.Rows L2 Evl Lk

/-! ### an owned result let go; a slot's thing moved -/
def wFrz (w : WE) : WE := fun env Q => w env fun r e => ∃ o d, r = .own o ∧ o.cd = some d ∧ Q (.f d) e
/-- the slot's thing is taken out as a value -/
def wMove (i : Nat) : WE := fun env Q => ∃ o d, env[i]? = some (some (.own o)) ∧ o.cd = some d ∧ Q (.f d) (env.set i none)
def wTake (i : Nat) : WE := fun env Q => ∃ o, env[i]? = some (some (.own o)) ∧ Q (.own o) (env.set i none)
section
variable {X : Cx} {G : Gx} {T T1 : Addr → Prop} {H H1 : Hp} {σ : L2.St} {env env1 : Env} {F F1 : Nat → List Addr} {e : Expr} {w : WE}
theorem owl_flat {K : PySem.W.Frag} : ∀ {os : List O} {vs : List V} {fp : List Addr} {ds : List D}, OwL K T H os vs fp → O.fds os = some ds → fp = []
  | [], _, _, _, h, e => by cases h; rfl
  | o :: os, _, _, _, h, e => by
    cases h with
    | cons a b _ =>
      cases o with
      | f d =>
        cases a
        cases e2 : O.fds os with
        | none => unfold O.fds at e; rw [e2] at e; cases e
        | some es => rw [owl_flat b e2] <;> rfl
      | _ => cases e
/-- an owned thing of values, let go -/
theorem Ow.frz {o : O} {v : V} {fp : List Addr} {d : D} (h : Ow G.K T H o v fp) (e : o.cd = some d) : Fz G.K (hid (fun a => T a ∧ a ∉ fp) H) v d := by
  have x : Ex (hid T H) (hid (fun a => T a ∧ a ∉ fp) H) := fun a u q => hid_of (hid_some q).1 fun z => (hid_some q).2 z.1
  cases h with
  | f a => cases e; exact a.ex x
  | lst a b c => cases e; exact .lst (SqL.of (hid_of b fun z => z.2 (List.mem_singleton.mpr rfl))) (c.ex x)
  | dic a b l c n =>
    rename_i os _
    have e : (O.fds os).map (D.dic _) = some d := e
    cases e2 : O.fds os with
    | none => rw [e2] at e; cases e
    | some es =>
      rw [e2] at e
      cases e
      exact .dic (.inl (hid_of b fun z => z.2 (List.mem_cons_self ..))) l ((c.fds e2).ex x)
  | ins => cases e
/-- .. while all else stays -/
theorem att_free {fr : List Addr} (r : RE G T H σ env F) (hp : ∀ a ∈ fr, G.P0 a ∨ G.H0 a = none) (n : ∀ i, IsS env i → ∀ a ∈ fr, a ∉ F i) : RE G (fun a => T a ∧ a ∉ fr) H σ env F := by
  have c : Chg T H (fun a => a ∈ fr ∧ T a) (fun a => T a ∧ a ∉ fr) H := ⟨fun _ _ h _ => h, fun a h q => ⟨h, fun z => q ⟨z, h⟩⟩, fun _ h => .inl h.1, fun a h => r.trk a h.1, fun _ h => h⟩
  exact r.chg c (fun a h => h.2) (fun a h => hp a h.1) fun i hi a ha hq => n i hi a hq.1 ha
theorem ge_frz (h : GE X G e w) : GE X G e (wFrz w) := by
  refine ⟨pe_imp h.pe fun σ H Q ⟨T, env, F, r, q⟩ => ⟨T, env, F, r, h.mono _ _ _ (fun s e ⟨o, d, hs, hd, q⟩ v T1 H1 F1 fr a z => ?_) q⟩, fun env Q Q' i q => h.mono _ _ _ (fun s e ⟨o, d, hs, hd, q⟩ => ⟨o, d, hs, hd, i _ _ q⟩) q⟩
  subst hs
  have rel : Ow G.K T1 H1 o v fr := z.rel
  have zs := resS r z nofun
  have re := att_free a.re (zs.from_ o rfl) (z.dis o rfl)
  refine q v _ H1 F1 [] ⟨⟨a.chg.keep, fun x hx n => ⟨a.chg.tk x hx n, fun hf => ?_⟩, fun x hx => a.chg.tf x hx.1, re.trk, a.chg.dom⟩, re, a.own, a.vw⟩ (res_f (rel.frz hd))
  rcases z.from_ o rfl x hf with p | p
  · exact n p
  · exact r.trk x hx p
theorem set_none_own {i j : Nat} (h : IsOwn (env.set i none) j) : j ≠ i ∧ IsOwn env j := by
  obtain ⟨o, h⟩ := h
  rcases set_get h with ⟨_, e⟩ | ⟨n, e⟩
  · cases e
  · exact ⟨n, o, e⟩
theorem set_none_s {i j : Nat} (h : IsS (env.set i none) j) : j ≠ i ∧ IsS env j := by
  obtain ⟨o, h⟩ := h
  rcases set_get h with ⟨_, e⟩ | ⟨n, e⟩
  · cases e
  · exact ⟨n, o, e⟩
theorem ge_move {i : Nat} (h : PE X e (tVar i)) : GE X G e (wMove i) := by
  refine ⟨pe_imp h fun σ H Q ⟨T, env, F, r, o, d, ho, hd, q⟩ => ?_, fun env Q Q' i ⟨o, d, ho, hd, q⟩ => ⟨o, d, ho, hd, i _ _ q⟩⟩
  obtain ⟨v, h1, h2⟩ := r.slot i _ ho
  have h2 : Ow G.K T H o v (F i) := h2
  have own : ∀ a ∈ F i, OwnP env F a := fun a ha => ⟨i, ⟨o, ho⟩, ha⟩
  have re := att_free (fr := F i) (r.drop i) (fun a ha => r.ow a (own a ha)) fun j hj a ha hb => by
    obtain ⟨n, hj⟩ := set_none_s hj
    exact r.dis i j n.symm ⟨o, ho⟩ hj a ha hb
  refine ⟨v, h1, q v _ H F [] ⟨⟨fun _ _ h _ => h, fun x hx n => ⟨hx, fun hf => n (own x hf)⟩, fun x hx => .inl hx.1, re.trk, fun _ h => h⟩, re, fun a ⟨j, hj, ha⟩ => .inl ⟨j, (set_none_own hj).2, ha⟩, fun j o h => ?_⟩ (res_f (h2.frz hd))⟩
  rcases set_get h with ⟨_, e⟩ | ⟨n, e⟩
  · cases e
  · exact ⟨e, rfl⟩
theorem ge_take {i : Nat} (h : PE X e (tVar i)) : GE X G e (wTake i) := by
  refine ⟨pe_imp h fun σ H Q ⟨T, env, F, r, o, ho, q⟩ => ?_, fun env Q Q' i ⟨o, ho, q⟩ => ⟨o, ho, i _ _ q⟩⟩
  obtain ⟨v, h1, h2⟩ := r.slot i _ ho
  have own : ∀ a ∈ F i, OwnP env F a := fun a ha => ⟨i, ⟨o, ho⟩, ha⟩
  refine ⟨v, h1, q v T H F (F i) ⟨.refl r.trk, r.drop i, fun a ⟨j, hj, ha⟩ => .inl ⟨j, (set_none_own hj).2, ha⟩, fun j o h => ?_⟩ ⟨h2, fun o' e j hj a ha hb => ?_, fun _ _ a ha => .inl (own a ha)⟩⟩
  · rcases set_get h with ⟨_, e⟩ | ⟨n, e⟩
    · cases e
    · exact ⟨e, rfl⟩
  · obtain ⟨n, hj⟩ := set_none_s hj
    exact r.dis i j n.symm ⟨o, ho⟩ hj a ha hb
/-! ### methods of an owned list at a slot -/
/-- what a method does with a list: its arguments, the list; the list behind, the value -/
abbrev LM := List D → List D → (List D → D → Prop) → Prop
def MonoLM (m : LM) : Prop := ∀ as ds (Q Q' : List D → D → Prop), (∀ a b, Q a b → Q' a b) → m as ds Q → m as ds Q'
def rLM (G : Gx) (m : LM) : V → List V → Hp → VK → Prop := fun x ws H Q => ∃ T p vs ds as, x = .ref p ∧ Trk T H ∧ H p = some (.lst vs) ∧ FzL G.K (hid T H) vs ds ∧ FzL G.K (hid T H) ws as ∧
  m as ds fun ds' d => ∀ vs' v, FzL G.K (hid T H) vs' ds' → Fz G.K (hid T H) v d → Q v (upd H p (.lst vs'))
structure MtX (X : Cx) (G : Gx) (id : String) (m : LM) : Prop where
  ok : MtR X id (rLM G m)
  mono : MonoLM m
def wMt (k : Nat) (m : LM) (wa : WA) : WE := fun env Q => wa env fun ags e => ∃ as ds, argsD ags = some as ∧ e[k]? = some (some (.own (.lst ds))) ∧ m as ds fun ds' d => Q (.f d) (e.set k (some (.own (.lst ds'))))
theorem ge_mt {e : Expr} {k : Nat} {m : LM} {wa : WA} (h : PE X e (tBM X.K "list" (rLM G m) (tVar k) (tWA G wa))) (hm : MonoLM m) (ha : MonoA wa) :
    GE X G e (fun env Q => (∃ s, env[k]? = some (some (.own (.lst s)))) ∧ wMt k m wa env Q) := by
  refine ⟨pe_imp h fun σ H Q ⟨T, env, F, r, ⟨s0, h0⟩, q⟩ => ?_, fun env Q Q' i ⟨h0, q⟩ => ⟨h0, ha _ _ _ (fun ags e ⟨as, ds, h1, h2, q⟩ => ⟨as, ds, h1, h2, hm _ _ _ _ (fun a b q => i _ _ q) q⟩) q⟩⟩
  obtain ⟨p0, vs0, s1, hp0, _, _⟩ := own_lst r h0
  refine ⟨_, s1, .inl ⟨rfl, vs0, SqL.of hp0⟩, T, env, F, r, ha _ _ _ (fun ags e ⟨as, ds, h1, h2, q⟩ ws T1 H1 F1 Fa a z => ?_) q⟩
  obtain ⟨p, vs, s2, hp, fz, upd_⟩ := own_lst a.re h2
  rw [s1] at s2
  cases s2
  refine ⟨T1, p0, vs, ds, as, rfl, a.re.trk, hp, fz, args_fz z h1, hm _ _ _ _ (fun ds' d q vs' v f1 f2 => ?_) q⟩
  have a2 := upd_ vs' ds' f1
  exact q v T1 _ F1 [] (a.trans r.trk a2) (res_f (f2.ex (a2.chg.hid a.re.sub)))
theorem ge_mt0 {e : Expr} {k : Nat} {m : LM} (h : PE X e (tBM0 X.K "list" (rLM G m) (tVar k))) (hm : MonoLM m) :
    GE X G e (fun env Q => ∃ ds, env[k]? = some (some (.own (.lst ds))) ∧ m [] ds fun ds' d => Q (.f d) (env.set k (some (.own (.lst ds'))))) := by
  refine ⟨pe_imp h fun σ H Q ⟨T, env, F, r, ds, h0, q⟩ => ?_, fun env Q Q' i ⟨ds, h0, q⟩ => ⟨ds, h0, hm _ _ _ _ (fun a b q => i _ _ q) q⟩⟩
  obtain ⟨p, vs, s1, hp, fz, upd_⟩ := own_lst r h0
  refine ⟨_, s1, .inl ⟨rfl, vs, SqL.of hp⟩, T, p, vs, ds, [], rfl, r.trk, hp, fz, .nil, hm _ _ _ _ (fun ds' d q vs' v f1 f2 => ?_) q⟩
  have a2 := upd_ vs' ds' f1
  exact q v T _ F [] a2 (res_f (f2.ex (a2.chg.hid r.sub)))
def mAppend : LM := fun as ds Q => ∃ d, as = [d] ∧ ds.length < sizeLine ∧ Q (ds ++ [d]) .non
def mPopAt : LM := fun as ds Q => ∃ i j d, as = [.int i] ∧ -(2 ^ 63) ≤ i ∧ i < 2 ^ 63 ∧ seqIndex? i ds.length = some j ∧ ds[j]? = some d ∧ Q (ds.eraseIdx j) d
def mPop : LM := fun as ds Q => ∃ d, as = [] ∧ ds[ds.length - 1]? = some d ∧ Q ds.dropLast d
def mReverse : LM := fun as ds Q => as = [] ∧ Q ds.reverse .non
theorem FzL.erase {K : PySem.W.Frag} {H : Hp} {vs : List V} {ds : List D} (h : FzL K H vs ds) (j : Nat) : FzL K H (vs.eraseIdx j) (ds.eraseIdx j) := by
  induction ds generalizing vs j with
  | nil => cases h; exact .nil
  | cons d ds ih => cases h with
    | cons a b => cases j with
      | zero => exact b
      | succ j => exact .cons a (ih b j)
theorem FzL.dropLast {K : PySem.W.Frag} {H : Hp} {vs : List V} {ds : List D} (h : FzL K H vs ds) : FzL K H vs.dropLast ds.dropLast := by
  rw [List.dropLast_eq_take, List.dropLast_eq_take, h.length]
  exact h.take _
theorem mt_imp {id : String} {r r' : V → List V → Hp → VK → Prop} (h : MtR X id r) (i : ∀ x ws H Q, r' x ws H Q → r x ws H Q) : MtR X id r' := fun pins s σ H x ws v us Q I rx rw' q => h pins s σ H x ws v us Q I rx rw' (i x ws H Q q)
theorem fz1 {K : PySem.W.Frag} {H : Hp} {vs : List V} {d : D} (h : FzL K H vs [d]) : ∃ v, vs = [v] ∧ Fz K H v d := by
  cases h with
  | cons a b => cases b; exact ⟨_, rfl, a⟩
theorem mx_append : MtX X G "list.append" mAppend := by
  refine ⟨mt_imp mt_append fun x ws H Q ⟨T, p, vs, ds, as, hx, t, hp, f1, f2, d, ha, hl, q⟩ => ?_, fun as ds Q Q' i ⟨d, ha, hl, q⟩ => ⟨d, ha, hl, i _ _ q⟩⟩
  subst ha
  obtain ⟨v, rfl, fv⟩ := fz1 f2
  exact ⟨p, vs, v, hx, rfl, hp, by rw [f1.length]; exact hl, q _ _ (f1.append (.cons fv .nil)) .non⟩
theorem mx_popAt : MtX X G "list.pop" mPopAt := by
  refine ⟨mt_imp mt_popAt fun x ws H Q ⟨T, p, vs, ds, as, hx, t, hp, f1, f2, i, j, d, ha, h1, h2, h3, h4, q⟩ => ?_, fun as ds Q Q' ii ⟨i, j, d, ha, h1, h2, h3, h4, q⟩ => ⟨i, j, d, ha, h1, h2, h3, h4, ii _ _ q⟩⟩
  subst ha
  obtain ⟨v, rfl, fv⟩ := fz1 f2
  cases fv
  have hj : j < vs.length := by rw [f1.length]; exact (List.getElem?_eq_some_iff.mp h4).1
  exact ⟨p, vs, i, j, vs[j], hx, rfl, hp, h1, h2, by rw [f1.length]; exact h3, List.getElem?_eq_getElem hj, q _ _ (f1.erase j) (f1.get (List.getElem?_eq_getElem hj) h4)⟩
theorem mx_pop : MtX X G "list.pop" mPop := by
  refine ⟨mt_imp mt_pop fun x ws H Q ⟨T, p, vs, ds, as, hx, t, hp, f1, f2, d, ha, h4, q⟩ => ?_, fun as ds Q Q' ii ⟨d, ha, h4, q⟩ => ⟨d, ha, h4, ii _ _ q⟩⟩
  subst ha
  cases f2
  have hj : vs.length - 1 < vs.length := by rw [f1.length]; exact (List.getElem?_eq_some_iff.mp h4).1
  exact ⟨p, vs, _, hx, rfl, hp, List.getElem?_eq_getElem hj, q _ _ f1.dropLast (f1.get (List.getElem?_eq_getElem hj) (by rw [f1.length]; exact h4))⟩
/-! ### x[i] = e at a slot that owns a list -/
def gSetL (k : Nat) (wi : WE) : WG := fun d env Q => (∃ s, env[k]? = some (some (.own (.lst s)))) ∧ wi env fun r e => ∃ i j ds, r = .f (.int i) ∧ e[k]? = some (some (.own (.lst ds))) ∧ ixN ds.length i = some j ∧ Q (e.set k (some (.own (.lst (ds.set j d)))))
theorem gg_setL {o i : Expr} {k : Nat} {wi : WE} {pos : Pos} (ho : PE X o (tVar k)) (hi : GE X G i wi)
    (ha : ∀ v, assign (.Subscript o i pos) X.env v = (do
      let ov ← holding [v] (eval o X.env)
      let iv ← holding [v, ov] (eval i X.env)
      standAt pos
      holding [v, ov, iv] (setItem ov iv v)
      release [v, ov, iv] []) := by intro _; rfl) : GG X G (.Subscript o i pos) (gSetL k wi) := by
  refine ⟨⟨fun pins s σ H v u Q I rv ⟨T, env, F, d, r, fz, ⟨s0, h0⟩, q⟩ => (pg_sub ho hi.pe set_list ha).run pins s σ H v u Q I rv ?_⟩, fun d env Q Q' ii ⟨h0, q⟩ => ⟨h0, hi.mono _ _ _ (fun s e ⟨i, j, ds, h1, h2, h3, q⟩ => ⟨i, j, ds, h1, h2, h3, ii _ q⟩) q⟩, fun _ _ _ q => q⟩
  obtain ⟨p0, vs0, s1, hp0, _, _⟩ := own_lst r h0
  refine ⟨_, s1, T, env, F, r, hi.mono _ _ _ (fun s e ⟨i, j, ds, h1, h2, h3, q⟩ y T1 H1 F1 fr a z => ?_) q⟩
  subst h1
  have zr := z.rel.1
  cases zr
  obtain ⟨p, vs, s2, hp, f1, upd_⟩ := own_lst a.re h2
  rw [s1] at s2
  cases s2
  have a2 := upd_ (vs.set j v) (ds.set j d) (f1.set (Fz.att r a fz) j)
  exact ⟨p0, vs, i, j, rfl, rfl, hp, by rw [f1.length]; exact h3, q σ T1 _ F1 a2.re ((a.chg.hid r.sub).trans (a2.chg.hid a.re.sub))⟩
/-! x[i] op= e -/
def wAugL (k : Nat) (wi we : WE) (o : Op2) : WS := fun D env => (∃ s, env[k]? = some (some (.own (.lst s)))) ∧ wi env fun r e => ∃ i ds d, r = .f (.int i) ∧ e[k]? = some (some (.own (.lst ds))) ∧ 0 ≤ i ∧ ds[i.toNat]? = some d ∧ we e fun r2 e2 => ∃ d2, r2 = .f d2 ∧ o d d2 fun d3 => ∃ ds2 j, e2[k]? = some (some (.own (.lst ds2))) ∧ ixN ds2.length i = some j ∧ D.nx (e2.set k (some (.own (.lst (ds2.set j d3)))))
structure IpX (X : Cx) (G : Gx) (op : Operator) (o : Op2) : Prop where
  ok : PIp X op (rO G o)
  mono : MonoO o
theorem gs_augL {o i e2 : Expr} {k : Nat} {wi we : WE} {op : Operator} {o2 : Op2} {tpos pos : Pos} (ho : PE X o (tVar k)) (hi : GE X G i wi) (he : GE X G e2 we) (hp : IpX X G op o2) (hK : X.K = G.K := by rfl)
    (ha : ∀ ov iv new, augStore i ov iv new = (do holding [new, ov, iv] (setItem ov iv new); release [new, ov, iv] []; pure .next) := by intros; rfl) : GS X G (.AugAssign (.Subscript o i tpos) op e2 pos) (wAugL k wi we o2) := by
  refine ⟨ps_imp (ps_augL ho hi.pe he.pe hp.ok ha) fun D σ H ⟨T, env, F, r, ⟨s0, h0⟩, q⟩ => ?_, fun D D' env l ⟨h0, q⟩ => ⟨h0, hi.mono _ _ _ (fun s e ⟨i, ds, d, h1, h2, h3, h4, q⟩ => ⟨i, ds, d, h1, h2, h3, h4, he.mono _ _ _ (fun s2 e2 ⟨d2, g1, q⟩ => ⟨d2, g1, hp.mono _ _ _ _ (fun d3 ⟨ds2, j, g2, g3, q⟩ => ⟨ds2, j, g2, g3, l.nx _ q⟩) q⟩) q⟩) q⟩⟩
  obtain ⟨p0, vs0, s1, hp0, _, _⟩ := own_lst r h0
  refine ⟨_, s1, T, env, F, r, hi.mono _ _ _ (fun s e ⟨i, ds, d, h1, h2, h3, h4, q⟩ y T1 H1 F1 fr a z => ?_) q⟩
  subst h1
  have zr := z.rel.1
  cases zr
  obtain ⟨p, vs, s2, hp1, f1, upd_⟩ := own_lst a.re h2
  rw [s1] at s2
  cases s2
  have hj : i.toNat < vs.length := by rw [f1.length]; exact (List.getElem?_eq_some_iff.mp h4).1
  have fd := f1.get (List.getElem?_eq_getElem hj) h4
  refine ⟨p0, vs, i, vs[i.toNat], rfl, rfl, by rw [hK]; exact SqL.of hp1, h3, List.getElem?_eq_getElem hj, T1, e, F1, a.re, he.mono _ _ _ (fun s2 e2 ⟨d2, g1, q⟩ y2 T2 H2 F2 fr2 a2 z2 => ?_) q⟩
  subst g1
  refine ⟨T2, d, d2, a2.re.trk, Cz.of (Fz.att a.re a2 fd), Cz.of z2.rel.1, hp.mono _ _ _ _ (fun d3 ⟨ds2, j, g2, g3, q⟩ v H3 e3 f3 => ?_) q⟩
  obtain ⟨p3, vs3, s3, hp3, f4, upd3⟩ := own_lst (a2.re.ex e3) g2
  rw [s1] at s3
  cases s3
  have a3 := upd3 (vs3.set j v) (ds2.set j d3) (f4.set f3 j)
  exact ⟨p0, vs3, i, j, rfl, rfl, hp3, by rw [f4.length]; exact g3, q σ T2 _ F2 a3.re ((((a.chg.hid r.sub).trans (a2.chg.hid a.re.sub)).trans (hid_mono e3)).trans (a3.chg.hid (a2.re.ex e3).sub))⟩
/-- name op= e -/
def wAug (i : Nat) (we : WE) (o : Op2) : WS := fun D env => ∃ d, env[i]? = some (some (.f d)) ∧ we env fun r e => ∃ d2, r = .f d2 ∧ o d d2 fun d3 => i < e.length ∧ D.nx (e.set i (some (.f d3)))
theorem gs_aug {st : Stmt} {i : Nat} {we : WE} {op : Operator} {o2 : Op2} (h : PS X st (tAug i (tW G we) (rO G o2))) (he : MonoE we) (mo : MonoO o2) (hp : G.prot i = false) : GS X G st (wAug i we o2) := by
  refine ⟨ps_imp h fun D σ H ⟨T, env, F, r, d, hd, q⟩ => ?_, fun D D' env l ⟨d, hd, q⟩ => ⟨d, hd, he _ _ _ (fun s e ⟨d2, g1, q⟩ => ⟨d2, g1, mo _ _ _ _ (fun d3 ⟨hi, q⟩ => ⟨hi, l.nx _ q⟩) q⟩) q⟩⟩
  obtain ⟨v, h1, h2⟩ := r.slot i _ hd
  refine ⟨v, h1, T, env, F, r, he _ _ _ (fun s e ⟨d2, g1, q⟩ y T1 H1 F1 fr a z => ?_) q⟩
  subst g1
  refine ⟨T1, d, d2, a.re.trk, Cz.of (Fz.att r a h2.1), Cz.of z.rel.1, mo _ _ _ _ (fun d3 ⟨hi, q⟩ w H2 e2 f2 => ?_) q⟩
  exact q _ T1 H2 _ ((a.re.ex e2).store (r := .f d3) i (by rw [← a.re.len]; exact hi) hp nofun (fr := []) ⟨f2, rfl⟩ nofun nofun) ((a.chg.hid r.sub).trans (hid_mono e2))
end
end Fx

namespace Fx
open PySem PySem.Spec PyProof.Rows L2 Evl Lk

/-! ### comprehensions: the list that is made is owned -/
inductive Tgt where
  | name (j : Nat) | tup (js : List Nat)
def gNames : List Nat → TGs
  | [] => gNil
  | j :: js => gCons (gName j) (gNames js)
def Tgt.tg (K : PySem.W.Frag) : Tgt → TG
  | .name j => gName j
  | .tup js => gTup K js.length (gNames js)
def Tgt.js : Tgt → List Nat
  | .name j => [j]
  | .tup js => js
def Tgt.get : Tgt → D → Option (List D)
  | .name _, d => some [d]
  | .tup js, .tup ds => if ds.length = js.length then some ds else none
  | .tup _, _ => none
def setS : L2.St → List Nat → List V → L2.St
  | σ, j :: js, v :: vs => setS (σ.set j (some v)) js vs
  | σ, _, _ => σ
def setE : Env → List Nat → List D → Env
  | e, j :: js, d :: ds => setE (e.set j (some (.f d))) js ds
  | e, _, _ => e
def wipeE : Env → List Nat → Env
  | e, [] => e
  | e, v :: vs => (wipeE e vs).set v none
theorem gNames_of {σ : L2.St} {H : Hp} {R : L2.St → Hp → Prop} : ∀ {js : List Nat} {vs : List V} {σ : L2.St}, vs.length = js.length → R (setS σ js vs) H → gNames js vs σ H R
  | [], [], _, _, q => ⟨rfl, q⟩
  | [], _ :: _, _, h, _ => by cases h
  | _ :: _, [], _, h, _ => by cases h
  | j :: js, v :: vs, σ, h, q => ⟨v, vs, rfl, gNames_of (σ := σ) (js := js) (by simpa using h) q⟩
theorem setS_len : ∀ (js : List Nat) (vs : List V) (σ : L2.St), (setS σ js vs).length = σ.length
  | [], vs, σ => by cases vs <;> rfl
  | j :: js, [], σ => rfl
  | j :: js, v :: vs, σ => by rw [setS, setS_len js vs, List.length_set]
theorem setS_out : ∀ {js : List Nat} {vs : List V} {σ : L2.St} {i : Nat}, i ∉ js → (setS σ js vs)[i]? = σ[i]?
  | [], vs, σ, i, h => by cases vs <;> rfl
  | j :: js, [], σ, i, h => rfl
  | j :: js, v :: vs, σ, i, h => by
    have n : j ≠ i := fun e => h (by rw [e]; exact List.mem_cons_self ..)
    rw [setS, setS_out (fun z => h (List.mem_cons_of_mem _ z)), List.getElem?_set_ne n]
theorem wipe_get {σ : L2.St} : ∀ {vs : List Nat} {i : Nat}, (wipe σ vs)[i]? = if i ∈ vs then (if i < σ.length then some none else none) else σ[i]?
  | [], i => by simp [wipe]
  | v :: vs, i => by
    by_cases e : i = v
    · subst e
      rw [if_pos (List.mem_cons_self ..), wipe]
      by_cases hl : i < σ.length
      · rw [if_pos hl, List.getElem?_set_self (by rw [wipe_length]; exact hl)]
      · rw [if_neg hl, List.getElem?_eq_none (by rw [List.length_set, wipe_length]; omega)]
    · rw [wipe, List.getElem?_set_ne (Ne.symm e), wipe_get (vs := vs)]
      by_cases h : i ∈ vs
      · rw [if_pos h, if_pos (List.mem_cons_of_mem _ h)]
      · rw [if_neg h, if_neg (fun z => (List.mem_cons.mp z).elim e h)]
theorem wipe_eq {σ1 σ2 : L2.St} {vs : List Nat} (hl : σ1.length = σ2.length) (h : ∀ i, i ∉ vs → σ1[i]? = σ2[i]?) : wipe σ1 vs = wipe σ2 vs := by
  refine List.ext_getElem? fun i => ?_
  rw [wipe_get, wipe_get]
  by_cases hi : i ∈ vs
  · rw [if_pos hi, if_pos hi, hl]
  · rw [if_neg hi, if_neg hi, h i hi]
theorem wipeE_some {e : Env} {s : Sl} : ∀ {vs : List Nat} {i : Nat}, (wipeE e vs)[i]? = some (some s) → e[i]? = some (some s) ∧ i ∉ vs
  | [], i, h => ⟨h, by simp⟩
  | v :: vs, i, h => by
    rw [wipeE] at h
    rcases set_get h with ⟨_, e⟩ | ⟨n, h⟩
    · cases e
    · obtain ⟨h1, h2⟩ := wipeE_some h
      exact ⟨h1, fun z => (List.mem_cons.mp z).elim n h2⟩
theorem wipeE_len (e : Env) : ∀ vs : List Nat, (wipeE e vs).length = e.length
  | [] => rfl
  | v :: vs => by rw [wipeE, List.length_set, wipeE_len e vs]
section
variable {G : Gx} {T T1 : Addr → Prop} {H H1 : Hp} {σ σ' : L2.St} {env env1 e : Env} {F F1 : Nat → List Addr}
theorem RE.wipeE (r : RE G T H σ env F) (vs : List Nat) : RE G T H σ (wipeE env vs) F := by
  induction vs with
  | nil => exact r
  | cons v vs ih => exact ih.drop v
/-- other slots' values, where nothing is known -/
theorem RE.sigma (r : RE G T H σ (Fx.wipeE e vs) F) (hl : σ'.length = σ.length) (h : ∀ i, i ∉ vs → σ'[i]? = σ[i]?) (hp : ∀ i ∈ vs, G.prot i = false) : RE G T H σ' (Fx.wipeE e vs) F :=
  ⟨r.trk, r.tab, fun i s hi => by
    obtain ⟨v, h1, h2⟩ := r.slot i s hi
    exact ⟨v, by rw [h i (wipeE_some hi).2]; exact h1, h2⟩, r.dis, r.st, r.ow, r.t0, fun i hi => by
    rw [h i (fun z => by rw [hp i z] at hi; cases hi)]
    exact r.pin i hi, by rw [hl]; exact r.len, r.hx⟩
theorem RE.names {js : List Nat} (hp : ∀ i, i ∈ js → G.prot i = false) : ∀ {js' : List Nat} {ds : List D} {vs : List V} {σ : L2.St} {env : Env} {F : Nat → List Addr}, (∀ i ∈ js', i ∈ js) → RE G T H σ env F → FzL G.K (hid T H) vs ds → (∀ j ∈ js', j < σ.length) →
    ∃ F', RE G T H (setS σ js' vs) (setE env js' ds) F' ∧ ∀ k, k ∉ js' → F' k = F k
  | [], ds, vs, σ, env, F, _, r, f, _ => by
    cases vs <;> cases ds <;> exact ⟨F, r, fun _ _ => rfl⟩
  | j :: js', ds, vs, σ, env, F, sub, r, f, hl => by
    cases f with
    | nil => exact ⟨F, r, fun _ _ => rfl⟩
    | cons a b =>
      have r2 := r.store (r := .f _) j (hl j (List.mem_cons_self ..)) (hp j (sub j (List.mem_cons_self ..))) nofun (fr := []) ⟨a, rfl⟩ nofun nofun
      obtain ⟨F', r3, h3⟩ := RE.names hp (fun i hi => sub i (List.mem_cons_of_mem _ hi)) r2 b fun k hk => by rw [List.length_set]; exact hl k (List.mem_cons_of_mem _ hk)
      refine ⟨F', r3, fun k hk => ?_⟩
      rw [h3 k (fun z => hk (List.mem_cons_of_mem _ z)), upF_ne (fun z => hk (by rw [z]; exact List.mem_cons_self ..))]
theorem setE_s : ∀ {js : List Nat} {ds : List D} {env : Env} {i : Nat} {s : Sl}, (setE env js ds)[i]? = some (some s) → (i ∈ js ∧ ∃ d, s = .f d) ∨ env[i]? = some (some s)
  | [], ds, env, i, s, h => by cases ds <;> exact .inr h
  | j :: js, [], env, i, s, h => .inr h
  | j :: js, d :: ds, env, i, s, h => by
    rcases setE_s (js := js) (ds := ds) h with ⟨a, b⟩ | h
    · exact .inl ⟨List.mem_cons_of_mem _ a, b⟩
    · rcases set_get h with ⟨e, z⟩ | ⟨_, h⟩
      · cases z
        exact .inl ⟨by rw [e]; exact List.mem_cons_self .., d, rfl⟩
      · exact .inr h
end
/-- [e for t in xs if c]; vs: the comprehension's own slots -/
def wLc (wi : WI) (tg : Tgt) (vs : List Nat) (t : WT) (w : WE) : WE := fun env Q => wi env fun ds e0 => ds.length ≤ 100000 ∧ ∃ J : Nat → List D → Env → Prop, J 0 [] e0 ∧
  (∀ i d acc e, ds[i]? = some d → J i acc e → ∃ xs, tg.get d = some xs ∧ t (setE (wipeE e vs) tg.js xs) fun b e2 => if b = true then w e2 fun r e3 => ∃ d', r = .f d' ∧ J (i + 1) (acc ++ [d']) e3 else J (i + 1) acc e2) ∧
  ∀ acc e, J ds.length acc e → Q (.own (.lst acc)) (wipeE e vs)
def wYes : WT := fun env Q => Q true env
def tYesW (G : Gx) : TT := fun σ H Q => Q true H
section
variable {X : Cx} {G : Gx} {elt iter : Expr} {wi : WI} {tg : Tgt} {vs : List Nat} {t : WT} {w : WE}
theorem lcW {tt : TT} (hi : MonoI wi) (hw : MonoE w) (htt : ∀ σ H Q, tWT G t σ H Q → tt σ H Q) (mt : MonoT t) (hsub : ∀ j ∈ tg.js, j ∈ vs) (hp : ∀ i ∈ vs, G.prot i = false) {σ : L2.St} (hlen : ∀ i ∈ vs, i < σ.length) {H : Hp} {Q : VK} (h : tW G (wLc wi tg vs t w) σ H Q) :
    tLc (tWI G wi) (tg.tg G.K) tt (tW G w) vs σ H Q := by
  obtain ⟨T, env, F, r, q⟩ := h
  refine ⟨T, env, F, r, hi _ _ _ (fun ds e0 ⟨hz, J, j0, js, jd⟩ It T1 H1 F1 Bs a it b0 => ?_) q⟩
  intro Dl nD
  have Hnone : H Dl = none := by
    cases e : H Dl with
    | none => rfl
    | some u => exact absurd nD (a.chg.dom Dl (by rw [e]; exact nofun))
  have G0none : G.P0 Dl ∨ G.H0 Dl = none := .inr (by
    cases e : G.H0 Dl with
    | none => rfl
    | some u => exact absurd Hnone (r.st.dom Dl (by rw [e]; exact nofun)))
  -- one state between two turns
  let S : Nat → Hp → Prop := fun i H' => ∃ T' env' F' acc vacc, Att G σ T H env F T' H' (wipeE env' vs) F' ∧ Bs T' H' ∧ T' Dl ∧ H' Dl = some (.lst vacc) ∧ FzL G.K (hid T' H') vacc acc ∧ (∀ k, IsS (wipeE env' vs) k → Dl ∉ F' k) ∧ acc.length ≤ i ∧ J i acc env'
  have start : S 0 (upd H1 Dl (.lst [])) := by
    have a1 := att_new (o := HO.lst []) a.re nD
    have re := a1.re.wipeE vs
    refine ⟨_, e0, F1, [], [], ⟨(a.trans r.trk a1).chg, re, fun x ⟨k, ⟨o, hk⟩, hx⟩ => a.own x ⟨k, ⟨o, (wipeE_some hk).1⟩, hx⟩, fun k o hk => a.vw k o (wipeE_some hk).1⟩, it.keep _ _ _ _ b0 (hid_new nD), .inr rfl, upd_same, .nil, fun k ⟨s, hk⟩ hF => ?_, Nat.le_refl _, j0⟩
    obtain ⟨v, _, z⟩ := a.re.slot k s (wipeE_some hk).1
    exact a.re.trk Dl (z.sub Dl hF) nD
  refine ⟨fun i m H' => m = ds.length - i ∧ i ≤ ds.length ∧ S i H', ⟨_, rfl, Nat.zero_le _, start⟩, ?_⟩
  rintro i m H' ⟨rfl, hi', T', env', F', acc, vacc, a', b', tD, hD, fa, nF, hacc, j'⟩
  by_cases hlt : i < ds.length
  · obtain ⟨go, yl⟩ := it.go i T' H' a'.re.trk b' hlt
    refine .inr ⟨go, S (i + 1), fun H2 s2 => ⟨ds.length - (i + 1), by omega, rfl, hlt, s2⟩, fun x H2 y => ?_⟩
    obtain ⟨d, hd, ex, fz⟩ := yl x H2 y
    obtain ⟨xs, hx, jt⟩ := js i d acc env' hd j'
    -- the target's slots
    have re2 : RE G T' H2 (wipe σ vs) (wipeE env' vs) F' := (a'.re.ex ex).sigma (wipe_length σ vs) (fun k hk => by rw [wipe_get, if_neg hk]) hp
    have lw : ∀ j ∈ tg.js, j < (wipe σ vs).length := fun j hj => by rw [wipe_length]; exact hlen j (hsub j hj)
    have go2 : ∀ R : L2.St → Hp → Prop, (∀ ws F2, RE G T' H2 (setS (wipe σ vs) tg.js ws) (setE (wipeE env' vs) tg.js xs) F2 → (∀ k, k ∉ tg.js → F2 k = F' k) → R (setS (wipe σ vs) tg.js ws) H2) → tg.tg G.K x (wipe σ vs) H2 R := by
      intro R k
      cases tg with
      | name j =>
        have hx : some [d] = some xs := hx
        cases hx
        obtain ⟨F2, r2, f2⟩ := RE.names (js := vs) hp (js' := [j]) hsub re2 (.cons fz .nil) lw
        exact k [x] F2 r2 f2
      | tup ks =>
        cases d with
        | tup ds' =>
          have hx : (if ds'.length = ks.length then some ds' else none) = some xs := hx
          by_cases hl : ds'.length = ks.length
          · rw [if_pos hl] at hx
            cases hx
            cases fz with
            | tup l fl =>
              rename_i p ws
              obtain ⟨F2, r2, f2⟩ := RE.names (js := vs) hp (js' := ks) hsub re2 fl lw
              exact ⟨_, _, rfl, ex_t hid_ex l, fl.length.trans hl, gNames_of (σ := wipe σ vs) (fl.length.trans hl) (k ws F2 r2 f2)⟩
          · rw [if_neg hl] at hx
            cases hx
        | _ => cases hx
    refine go2 _ fun ws F2 r2 f2 => ?_
    generalize hσ : setS (wipe σ vs) tg.js ws = σ2 at r2
    have sg : ∀ k, k ∉ vs → σ2[k]? = σ[k]? := fun k hk => by
      rw [← hσ, setS_out (fun z => hk (hsub k z)), wipe_get, if_neg hk]
    have ln : σ2.length = σ.length := by rw [← hσ, setS_len, wipe_length]
    refine ⟨wipe_eq ln sg, ?_⟩
    generalize henv : setE (wipeE env' vs) tg.js xs = env2 at r2 jt
    -- slots of the turn
    have sl2 : ∀ k s, env2[k]? = some (some s) → ((∃ d, s = .f d) ∧ F2 k = []) ∨ ((wipeE env' vs)[k]? = some (some s) ∧ F2 k = F' k) := fun k s h => by
      rw [← henv] at h
      rcases setE_s h with ⟨_, d, e⟩ | h'
      · subst e
        rw [henv] at h
        obtain ⟨v, _, z⟩ := r2.slot k _ h
        exact .inl ⟨⟨d, rfl⟩, z.2⟩
      · exact .inr ⟨h', f2 k fun z => (wipeE_some h').2 (hsub k z)⟩
    have own2 : ∀ a, OwnP env2 F2 a → OwnP (wipeE env' vs) F' a := fun a ⟨k, ⟨o, hk⟩, ha⟩ => by
      rcases sl2 k _ hk with ⟨⟨d, e⟩, _⟩ | ⟨h, e⟩
      · cases e
      · exact ⟨k, ⟨o, h⟩, by rw [← e]; exact ha⟩
    have n2 : ∀ k, IsS env2 k → ∀ y ∈ [Dl], y ∉ F2 k := fun k ⟨s, hk⟩ y hy hF => by
      rw [List.mem_singleton.mp hy] at hF
      rcases sl2 k s hk with ⟨_, e⟩ | ⟨h, e⟩
      · rw [e] at hF; cases hF
      · rw [e] at hF; exact nF k ⟨s, h⟩ hF
    have nP : ¬ OwnP env2 F2 Dl := fun ⟨k, ⟨o, hk⟩, hF⟩ => n2 k ⟨_, hk⟩ Dl (List.mem_singleton.mpr rfl) hF
    have step : ∀ (T4 : Addr → Prop) (H4 : Hp) (e3 : Env) (F4 : Nat → List Addr), Att G σ2 T' H2 env2 F2 T4 H4 e3 F4 → Att G σ T H env F T4 H4 (wipeE e3 vs) F4 ∧ Ex (hid T' H') (hid T4 H4) ∧ T4 Dl ∧ H4 Dl = some (.lst vacc) ∧ (∀ k, IsS (wipeE e3 vs) k → Dl ∉ F4 k) := fun T4 H4 e3 F4 a4 => by
      have out := att_out (fr := [Dl]) r2.trk a4 (fun y hy => by rw [List.mem_singleton.mp hy]; exact tD) n2
      have c1 : Chg T' H' (OwnP (wipeE env' vs) F') T' H2 := ⟨fun a o h _ => ex a o h, fun _ h _ => h, fun _ h => .inl h, r2.trk, ex_dom ex⟩
      have domN : ∀ a, H2 a = none → H a = none := fun a h => by
        cases e : H a with
        | none => rfl
        | some u =>
          have h1 := a'.chg.dom a (by rw [e]; exact nofun)
          exact absurd h (ex_dom ex a h1)
      refine ⟨⟨(a'.chg.trans r.trk c1 a'.own).trans r.trk a4.chg fun a ha => a'.own a (own2 a ha), (a4.re.wipeE vs).sigma ln.symm (fun k hk => (sg k hk).symm) hp, fun a ⟨k, ⟨o, hk⟩, ha⟩ => ?_, fun k o hk => ?_⟩, (hid_mono ex).trans (a4.chg.hid r2.sub), a4.chg.tk Dl tD nP, a4.chg.keep Dl _ (ex Dl _ hD) nP, fun k ⟨s, hk⟩ hF => out k ⟨s, (wipeE_some hk).1⟩ Dl (List.mem_singleton.mpr rfl) hF⟩
      · rcases a4.own a ⟨k, ⟨o, (wipeE_some hk).1⟩, ha⟩ with h | h
        · exact a'.own a (own2 a h)
        · exact .inr (domN a h)
      · obtain ⟨h1, h2⟩ := a4.vw k o (wipeE_some hk).1
        rcases sl2 k _ h1 with ⟨⟨d, e⟩, _⟩ | ⟨h, e⟩
        · cases e
        · obtain ⟨h3, h4⟩ := a'.vw k o h
          exact ⟨h3, (h2.trans e).trans h4⟩
    refine htt _ _ _ ⟨T', env2, F2, r2, mt _ _ _ (fun b e2 q T3 H3 F3 a3 => ?_) jt⟩
    cases b with
    | false =>
      have q : J (i + 1) acc e2 := q
      obtain ⟨s1, s2, s3, s4, s5⟩ := step T3 H3 e2 F3 a3
      exact ite_ff ⟨T3, e2, F3, acc, vacc, s1, it.keep _ _ _ _ b' s2, s3, s4, fa.ex s2, s5, Nat.le_succ_of_le hacc, q⟩
    | true =>
      refine ite_tt ⟨T3, e2, F3, a3.re, hw _ _ _ (fun s e3 ⟨d', hs, j4⟩ y T4 H4 F4 fr4 a4 z4 => ?_) q⟩
      subst hs
      obtain ⟨s1, s2, s3, s4, s5⟩ := step T4 H4 e3 F4 (a3.trans r2.trk a4)
      have c5 : Chg T4 H4 (fun a => a = Dl) T4 (upd H4 Dl (.lst (vacc ++ [y]))) := Chg.write a4.re.trk rfl
      have sub5 : Sub T4 (fun a => a = Dl) := fun a h => by rw [h]; exact s3
      have x5 := c5.hid sub5
      refine ⟨vacc, s4, Nat.lt_of_le_of_lt (Nat.le_of_eq fa.length) (Nat.lt_of_le_of_lt hacc (Nat.lt_of_lt_of_le hlt (Nat.le_trans hz (by decide)))), T4, e3, F4, acc ++ [d'], vacc ++ [y], ⟨s1.chg.trans r.trk c5 (fun a h => by rw [h]; exact .inr Hnone), s1.re.chg c5 sub5 (fun a h => by rw [h]; exact G0none) fun k hk a ha h => s5 k hk (by rw [← h]; exact ha), s1.own, s1.vw⟩, it.keep _ _ _ _ b' (s2.trans x5), s3, upd_same, ((fa.ex s2).append (.cons z4.rel.1 .nil)).ex x5, s5, by rw [List.length_append]; exact Nat.succ_le_succ hacc, j4⟩
  · have e : i = ds.length := by omega
    subst e
    refine .inl ⟨it.stop _ T' H' b' rfl, ?_⟩
    refine jd acc env' j' (.ref Dl) T' H' F' [Dl] a' ⟨.lst tD hD fa, fun o _ k hk x hx hF => ?_, fun o _ x hx => ?_⟩
    · rw [List.mem_singleton.mp hx] at hF
      exact nF k hk hF
    · rw [List.mem_singleton.mp hx]
      exact .inr Hnone
end
end Fx

namespace Fx
open PySem PySem.Spec PyProof.Rows L2 Evl Lk

/-! ### comprehensions: the rules -/
section
variable {X : Cx} {G : Gx} {e : Expr} {st : Stmt} {wi : WI} {tg : Tgt} {vs : List Nat} {t : WT} {w : WE}
theorem pe_impN {t t' : TE} (h : PE X e t) (i : ∀ σ H Q, σ.length = X.N.length → t' σ H Q → t σ H Q) : PE X e t' := ⟨fun pins s σ H Q I q => h.run pins s σ H Q I (i σ H Q I.len q)⟩
theorem ps_impN {t t' : TS} (h : PS X st t) (i : ∀ D σ H, σ.length = X.N.length → t' D σ H → t D σ H) : PS X st t' := ⟨fun pins s σ H D I q => h.run pins s σ H D I (i D σ H I.len q)⟩
theorem mono_lc (mi : MonoI wi) : MonoE (wLc wi tg vs t w) := fun env Q Q' i q => mi _ _ _ (fun ds e0 ⟨hz, J, j0, js, jd⟩ => ⟨hz, J, j0, js, fun acc e hj => i _ _ (jd acc e hj)⟩) q
theorem tt_yes {σ : L2.St} {H : Hp} {Q : Bool → Hp → Prop} (h : tWT G wYes σ H Q) : tYes σ H Q := by
  obtain ⟨T, env, F, r, q⟩ := h
  exact q T H F (.refl r)
theorem mono_yes : MonoT wYes := fun _ _ _ i q => i _ _ q
theorem ge_lc {tt : TT} (h : PE X e (tLc (tWI G wi) (tg.tg G.K) tt (tW G w) vs)) (mi : MonoI wi) (mw : MonoE w) (htt : ∀ σ H Q, tWT G t σ H Q → tt σ H Q) (mt : MonoT t) (hsub : ∀ j ∈ tg.js, j ∈ vs) (hp : ∀ i ∈ vs, G.prot i = false) (hN : ∀ i ∈ vs, i < X.N.length) : GE X G e (wLc wi tg vs t w) :=
  ⟨pe_impN h fun σ H Q hl q => lcW mi mw htt mt hsub hp (fun i hi => by rw [hl]; exact hN i hi) q, mono_lc mi⟩
theorem frzW {σ : L2.St} {H : Hp} {Q : VK} (hm : MonoE w) (h : tW G (wFrz w) σ H Q) : tW G w σ H Q := by
  obtain ⟨T, env, F, r, q⟩ := h
  refine ⟨T, env, F, r, hm _ _ _ (fun s e ⟨o, d, hs, hd, q⟩ v T1 H1 F1 fr a z => ?_) q⟩
  subst hs
  have rel : Ow G.K T1 H1 o v fr := z.rel
  have zs := resS r z nofun
  have re := att_free a.re (zs.from_ o rfl) (z.dis o rfl)
  refine q v _ H1 F1 [] ⟨⟨a.chg.keep, fun x hx n => ⟨a.chg.tk x hx n, fun hf => ?_⟩, fun x hx => a.chg.tf x hx.1, re.trk, a.chg.dom⟩, re, a.own, a.vw⟩ (res_f (rel.frz hd))
  rcases z.from_ o rfl x hf with p | p
  · exact n p
  · exact r.trk x hx p
theorem mono_frz (hm : MonoE w) : MonoE (wFrz w) := fun env Q Q' i q => hm _ _ _ (fun s e ⟨o, d, hs, hd, q⟩ => ⟨o, d, hs, hd, i _ _ q⟩) q
/-- name = [..] : owned; let go -/
theorem gs_setLc {tt : TT} {i : Nat} (h : PS X st (tAsg (tLc (tWI G wi) (tg.tg G.K) tt (tW G w) vs) (gName i))) (mi : MonoI wi) (mw : MonoE w) (htt : ∀ σ H Q, tWT G t σ H Q → tt σ H Q) (mt : MonoT t) (hsub : ∀ j ∈ tg.js, j ∈ vs) (hp : ∀ i ∈ vs, G.prot i = false) (hN : ∀ i ∈ vs, i < X.N.length) (hpi : G.prot i = false) : GS X G st (wSet i (wLc wi tg vs t w)) :=
  gs_set (ps_impN h fun D σ H hl q => lcW mi mw htt mt hsub hp (fun i hi => by rw [hl]; exact hN i hi) q) (mono_lc mi) hpi
theorem gs_setLcF {tt : TT} {i : Nat} (h : PS X st (tAsg (tLc (tWI G wi) (tg.tg G.K) tt (tW G w) vs) (gName i))) (mi : MonoI wi) (mw : MonoE w) (htt : ∀ σ H Q, tWT G t σ H Q → tt σ H Q) (mt : MonoT t) (hsub : ∀ j ∈ tg.js, j ∈ vs) (hp : ∀ i ∈ vs, G.prot i = false) (hN : ∀ i ∈ vs, i < X.N.length) (hpi : G.prot i = false) : GS X G st (wSet i (wFrz (wLc wi tg vs t w))) :=
  gs_set (ps_impN h fun D σ H hl q => lcW mi mw htt mt hsub hp (fun i hi => by rw [hl]; exact hN i hi) (frzW (mono_lc mi) q)) (mono_frz (mono_lc mi)) hpi
end

/-! ### values as the library's data -/
mutual
def D.py : D → PyData
  | .non => .none
  | .bl b => .bool b
  | .int i => .int i
  | .str x => .str x
  | .lst ds => .list (D.pyL ds)
  | .tup ds => .tuple (D.pyL ds)
  | .ty _ => .dict []
  | .dic _ _ => .dict []
def D.pyL : List D → List PyData
  | [] => []
  | d :: ds => d.py :: D.pyL ds
end
mutual
theorem dp_of {K : PySem.W.Frag} {H : Hp} : ∀ {d : D} {v : V}, Fz K H v d → d.py.canLay0 = true → Dp K H v d.py
  | .non, _, h, _ => by cases h; exact .non
  | .bl b, _, h, _ => by cases h; exact .bl b
  | .int i, _, h, _ => by cases h; exact .int i
  | .str x, _, h, _ => by cases h; exact .str x
  | .lst ds, _, h, l => by cases h with | lst a b => exact .lst a (dpL_of b (by simpa [D.py, PyData.canLay0] using l))
  | .tup ds, _, h, l => by cases h with | tup a b => exact .tup a (dpL_of b (by simpa [D.py, PyData.canLay0] using l))
  | .ty n, _, h, l => by simp [D.py, PyData.canLay0] at l
  | .dic ks ds, _, h, l => by simp [D.py, PyData.canLay0] at l
theorem dpL_of {K : PySem.W.Frag} {H : Hp} : ∀ {ds : List D} {vs : List V}, FzL K H vs ds → PyData.canLayAll0 (D.pyL ds) = true → DpAll K H vs (D.pyL ds)
  | [], _, h, _ => by cases h; exact .nil
  | d :: ds, _, h, l => by
    cases h with
    | cons a b =>
      have l' : d.py.canLay0 = true ∧ PyData.canLayAll0 (D.pyL ds) = true := by simpa [D.pyL, PyData.canLayAll0] using l
      exact .cons (dp_of a l'.1) (dpL_of b l'.2)
end
def okPy (d : D) : Bool := SeqAt.shaped d.py
theorem dp_ok {K : PySem.W.Frag} {H : Hp} {d : D} {v : V} (h : Fz K H v d) (l : okPy d = true) : Dp K H v d.py := dp_of h (SeqAt.canLay_of_shaped l)

/-! ### operations -/
section
variable {X : Cx} {G : Gx}
theorem fz_nil {K : PySem.W.Frag} {H : Hp} {vs : List V} (h : FzL K H vs []) : vs = [] := by cases h; rfl
def dAdd : Op2
  | .int i, .int j, Q => Q (.int (i + j))
  | .str x, .str y, Q => x.length + y.length ≤ sizeLine ∧ Q (.str (x ++ y))
  | .lst a, .lst b, Q => a.length + b.length ≤ sizeLine ∧ Q (.lst (a ++ b))
  | .tup a, .tup b, Q => a.length + b.length ≤ sizeLine ∧ Q (.tup (a ++ b))
  | _, _, _ => False
/-- two lists of any kind -/
theorem cat_any {pins : List (Addr × Obj)} {s : Shared} {σ : L2.St} {H : Hp} {a b : Addr} {xs ys : List V} {Q : VK} (I : Inv X pins σ H s) (ha : SqL X.K H a xs) (hb : SqL X.K H b ys) (hz : xs.length + ys.length ≤ sizeLine)
    (q : ∀ p, H p = none → Q (.ref p) (upd H p (.lst (xs ++ ys)))) : wpAny (model X.prog X.w) X.A (binaryOp .Add (.ref a) (.ref b)) (EP X pins σ Q) X.xe s := by
  obtain ⟨its, r, ⟨o1, n1, e1, c1, d1, t1⟩, _⟩ := I.list ha
  obtain ⟨its2, r2, ⟨o2, n2, e2, c2, d2, t2⟩, _⟩ := I.list hb
  obtain ⟨cls, dd, data, sl⟩ := o1
  obtain ⟨cls2, dd2, data2, sl2⟩ := o2
  simp only at c1 t1 c2 t2
  subst c1 t1 c2 t2
  have l1 := r.length
  have l2 := r2.length
  have e : its.toArray ++ its2.toArray = (its ++ its2).toArray := by simp
  refine concat_meets ⟨_, e1, rfl⟩ ⟨_, e2, rfl⟩ noFill_list_add seq_list_add PySem.F.slot_list_add PySem.F.entry_list_add (PySem.F.args_list_add_2 _ _) (list_addW a b its.toArray its2.toArray n1 n2 dd dd2 sl sl2 (by simp; omega)) ⟨e1, e2, ?_⟩
  rw [e]
  exact ⟨.ref _, _, I.lnew (t' := s.toks) (r.append r2) (by rw [List.length_append]; omega), rfl, q _ I.fresh⟩
theorem fz_new_l {T : Addr → Prop} {H : Hp} {p : Addr} {vs : List V} {ds : List D} {K : PySem.W.Frag} (t : Trk T H) (np : H p = none) (f : FzL K (hid T H) vs ds) : Fz K (hid T (upd H p (.lst vs))) (.ref p) (.lst ds) := .lst (SqL.of (hid_of upd_same (nT t np))) (f.ex (hid_mono (Ex.new np)))
theorem fz_new_t {T : Addr → Prop} {H : Hp} {p : Addr} {vs : List V} {ds : List D} {K : PySem.W.Frag} (t : Trk T H) (np : H p = none) (f : FzL K (hid T H) vs ds) : Fz K (hid T (upd H p (.tup vs))) (.ref p) (.tup ds) := .tup (SqT.of (hid_of upd_same (nT t np))) (f.ex (hid_mono (Ex.new np)))
theorem opx_add (hK : X.K = G.K := by rfl) : OpX X G (binaryOp .Add) dAdd := by
  refine ⟨fun pins s σ H x y v u Q I rx ry ⟨T, d1, d2, t, c1, c2, q⟩ => ?_, fun a b Q Q' i q => ?_⟩
  · cases d1 with
    | int i =>
      cases d2 with
      | int j =>
        cases c1
        cases c2
        exact op_add pins s σ H _ _ v u Q I rx ry ⟨i, j, rfl, rfl, q _ H (Ex.refl H) (.int _)⟩
      | _ => exact (show False from q).elim
    | str a =>
      cases d2 with
      | str b =>
        cases c1
        cases c2
        exact op_add_str pins s σ H _ _ v u Q I rx ry ⟨a, b, rfl, rfl, q.1, q.2 _ H (Ex.refl H) (.str _)⟩
      | _ => exact (show False from q).elim
    | lst a =>
      cases d2 with
      | lst b =>
        obtain ⟨p1, vs, rfl, l1, f1⟩ := c1
        obtain ⟨p2, ws, rfl, l2, f2⟩ := c2
        cases rx
        cases ry
        refine cat_any I (by rw [hK]; exact l1) (by rw [hK]; exact l2) (by rw [f1.length, f2.length]; exact q.1) fun p np => ?_
        exact q.2 _ _ (Ex.new np) (fz_new_l t np (f1.append f2))
      | _ => exact (show False from q).elim
    | tup a =>
      cases d2 with
      | tup b =>
        cases c1 with
        | tup l1 f1 =>
          cases c2 with
          | tup l2 f2 =>
            have k1 := ex_t hid_ex l1
            have k2 := ex_t hid_ex l2
            refine op_catA pins s σ H _ _ v u Q I rx ry ⟨_, _, _, _, rfl, rfl, by rw [hK]; exact k1, by rw [hK]; exact k2, by rw [f1.length, f2.length]; exact q.1, fun e => ?_, fun n e => ?_, fun _ _ p np => ?_⟩
            · have q2 := q.2
              subst e
              cases f1
              exact q2 _ H (Ex.refl H) (.tup l2 f2)
            · have q2 := q.2
              subst e
              cases f2
              rw [List.append_nil] at q2
              exact q2 _ H (Ex.refl H) (.tup l1 f1)
            · exact q.2 _ _ (Ex.new np) (fz_new_t t np (f1.append f2))
      | _ => exact (show False from q).elim
    | _ => exact (show False from q).elim
  · cases a <;> cases b <;> first | exact i _ q | exact ⟨q.1, i _ q.2⟩ | exact q
/-- ints in, an int out -/
def dII (C : Int → Int → Prop) (g : Int → Int → Int) : Op2
  | .int i, .int j, Q => C i j ∧ Q (.int (g i j))
  | _, _, _ => False
def dIB (g : Int → Int → Bool) : Op2
  | .int i, .int j, Q => Q (.bl (g i j))
  | _, _, _ => False
theorem opx_ii {f : Value → Value → Sem Value} {C : Int → Int → Prop} {g : Int → Int → Int} (h : OpR X f (rI C fun i j => .int (g i j))) : OpX X G f (dII C g) := by
  refine ⟨fun pins s σ H x y v u Q I rx ry ⟨T, d1, d2, t, c1, c2, q⟩ => ?_, fun a b Q Q' i q => ?_⟩
  · cases d1 with
    | int i =>
      cases d2 with
      | int j =>
        cases c1
        cases c2
        exact h pins s σ H _ _ v u Q I rx ry ⟨i, j, rfl, rfl, q.1, q.2 _ H (Ex.refl H) (.int _)⟩
      | _ => exact (show False from q).elim
    | _ => exact (show False from q).elim
  · cases a <;> cases b <;> first | exact ⟨q.1, i _ q.2⟩ | exact q
theorem opx_ii0 {f : Value → Value → Sem Value} {g : Int → Int → Int} (h : OpR X f (rI0 fun i j => .int (g i j))) : OpX X G f (dII (fun _ _ => True) g) :=
  opx_ii fun pins s σ H x y v u Q I rx ry ⟨i, j, e1, e2, _, q⟩ => h pins s σ H x y v u Q I rx ry ⟨i, j, e1, e2, q⟩
theorem opx_sub : OpX X G (binaryOp .Sub) (dII (fun _ _ => True) fun i j => i - j) := opx_ii0 op_sub
theorem opx_mul : OpX X G (binaryOp .Mult) (dII CMulW fun i j => i * j) := opx_ii op_mulW
theorem opx_mod : OpX X G (binaryOp .Mod) (dII (fun _ j => 0 < j) fun i j => i % j) := opx_ii op_mod
theorem opx_div : OpX X G (binaryOp .FloorDiv) (dII CDivW fun i j => i / j) := opx_ii op_fdivW
theorem opx_pow : OpX X G (binaryOp .Pow) (dII CPowW fun i j => i ^ j.toNat) := opx_ii op_powW
/-- comparisons of ints, of texts -/
def dCmp (g : Int → Int → Bool) (t : List Nat → List Nat → Bool) : Op2
  | .int i, .int j, Q => Q (.bl (g i j))
  | .str x, .str y, Q => Q (.bl (t x.cps.toList y.cps.toList))
  | _, _, _ => False
theorem opx_cmp {f : Value → Value → Sem Value} {g : Int → Int → Bool} {tb : List Nat → List Nat → Bool} (h : OpR X f (rI0 fun i j => .bl (g i j))) (h2 : OpR X f (fun x y H Q => ∃ i j, x = .str i ∧ y = .str j ∧ Q (.bl (tb i.cps.toList j.cps.toList)) H)) : OpX X G f (dCmp g tb) := by
  refine ⟨fun pins s σ H x y v u Q I rx ry ⟨T, d1, d2, t, c1, c2, q⟩ => ?_, fun a b Q Q' i q => ?_⟩
  · cases d1 with
    | int i =>
      cases d2 with
      | int j =>
        cases c1
        cases c2
        exact h pins s σ H _ _ v u Q I rx ry ⟨i, j, rfl, rfl, q _ H (Ex.refl H) (.bl _)⟩
      | _ => exact (show False from q).elim
    | str i =>
      cases d2 with
      | str j =>
        cases c1
        cases c2
        exact h2 pins s σ H _ _ v u Q I rx ry ⟨i, j, rfl, rfl, q _ H (Ex.refl H) (.bl _)⟩
      | _ => exact (show False from q).elim
    | _ => exact (show False from q).elim
  · cases a <;> cases b <;> first | exact i _ q | exact q
theorem opx_lt : OpX X G (compareOp .Lt) (dCmp (fun i j => decide (i < j)) fun x y => decide (x < y)) := opx_cmp op_lt op_lt_str
theorem opx_le : OpX X G (compareOp .LtE) (dCmp (fun i j => decide (i ≤ j)) fun x y => !decide (y < x)) := opx_cmp op_le op_le_str
theorem opx_gt : OpX X G (compareOp .Gt) (dCmp (fun i j => decide (j < i)) fun x y => decide (y < x)) := opx_cmp op_gt op_gt_str
theorem opx_ge : OpX X G (compareOp .GtE) (dCmp (fun i j => decide (j ≤ i)) fun x y => !decide (x < y)) := opx_cmp op_ge op_ge_str
/-- == of any two values -/
def dEq (neg : Bool) : Op2 := fun a b Q => okPy a = true ∧ okPy b = true ∧ Q (.bl (if neg = true then !PyData.eqv a.py b.py else PyData.eqv a.py b.py))
theorem opx_eq (hu : X.A.units + 64 < cLine) (hK : X.K = G.K := by rfl) : OpX X G (compareOp .Eq) (dEq false) := by
  refine ⟨fun pins s σ H x y v u Q I rx ry ⟨T, d1, d2, t, c1, c2, q1, q2, q⟩ => ?_, fun a b Q Q' i q => ⟨q.1, q.2.1, i _ q.2.2⟩⟩
  exact op_eqD hu pins s σ H x y v u Q I rx ry ⟨_, _, hK ▸ dp_ok c1.fz q1, hK ▸ dp_ok c2.fz q2, q1, q2, q _ H (Ex.refl H) (.bl _)⟩
theorem opx_ne (hu : X.A.units + 64 < cLine) (hK : X.K = G.K := by rfl) : OpX X G (compareOp .NotEq) (dEq true) := by
  refine ⟨fun pins s σ H x y v u Q I rx ry ⟨T, d1, d2, t, c1, c2, q1, q2, q⟩ => ?_, fun a b Q Q' i q => ⟨q.1, q.2.1, i _ q.2.2⟩⟩
  exact op_neD hu pins s σ H x y v u Q I rx ry ⟨_, _, hK ▸ dp_ok c1.fz q1, hK ▸ dp_ok c2.fz q2, q1, q2, q _ H (Ex.refl H) (.bl _)⟩
/-- is None -/
def dIsN (neg : Bool) : Op2 := fun a b Q => b = .non ∧ Q (.bl (match a with | .non => !neg | _ => neg))
theorem fz_non {K : PySem.W.Frag} {T : Addr → Prop} {H : Hp} {v : V} {d : D} (h : Cz K T H v d) : decide (v = .non) = match d with | .non => true | _ => false := by
  cases d with
  | non => cases h; rfl
  | bl b => cases h; rfl
  | int b => cases h; rfl
  | str b => cases h; rfl
  | ty b => cases h <;> rfl
  | lst ds => obtain ⟨a, vs, rfl, _⟩ := h; rfl
  | dic ks ds => obtain ⟨a, vs, rfl, _⟩ := h; rfl
  | tup ds => cases h; rfl
theorem opx_isN : OpX X G (compareOp .Is) (dIsN false) := by
  refine ⟨fun pins s σ H x y v u Q I rx ry ⟨T, d1, d2, t, c1, c2, q1, q⟩ => ?_, fun a b Q Q' i q => ⟨q.1, i _ q.2⟩⟩
  subst q1
  cases c2
  refine op_isN pins s σ H _ _ v u Q I rx ry ⟨rfl, ?_⟩
  rw [fz_non c1]
  refine q _ H (Ex.refl H) ?_
  cases d1 <;> exact .bl _
theorem opx_notN : OpX X G (compareOp .IsNot) (dIsN true) := by
  refine ⟨fun pins s σ H x y v u Q I rx ry ⟨T, d1, d2, t, c1, c2, q1, q⟩ => ?_, fun a b Q Q' i q => ⟨q.1, i _ q.2⟩⟩
  subst q1
  cases c2
  refine op_notN pins s σ H _ _ v u Q I rx ry ⟨rfl, ?_⟩
  rw [fz_non c1]
  refine q _ H (Ex.refl H) ?_
  cases d1 <;> exact .bl _
/-- x in a list, a tuple, a text (one sign) -/
def dIn (neg : Bool) : Op2
  | a, .lst ds, Q => okPy a = true ∧ okPy (.lst ds) = true ∧ Q (.bl (if neg = true then !(D.pyL ds).any fun z => PyData.eqv z a.py else (D.pyL ds).any fun z => PyData.eqv z a.py))
  | a, .tup ds, Q => okPy a = true ∧ okPy (.tup ds) = true ∧ Q (.bl (if neg = true then !(D.pyL ds).any fun z => PyData.eqv z a.py else (D.pyL ds).any fun z => PyData.eqv z a.py))
  | .str x, .str z, Q => ∃ c, x = ⟨#[c]⟩ ∧ Q (.bl (if neg = true then !decide (c ∈ z.cps.toList) else decide (c ∈ z.cps.toList)))
  | _, _, _ => False
theorem dIn_mono (neg : Bool) : MonoO (dIn neg) := fun a b Q Q' i q => by
  cases b with
  | lst ds => exact ⟨q.1, q.2.1, i _ q.2.2⟩
  | tup ds => exact ⟨q.1, q.2.1, i _ q.2.2⟩
  | str z =>
    cases a with
    | str x => obtain ⟨c, e, q⟩ := q; exact ⟨c, e, i _ q⟩
    | _ => exact q
  | _ => cases a <;> exact q
theorem opx_in (hu : X.A.units + 65 < cLine) (hK : X.K = G.K := by rfl) : OpX X G (compareOp .In) (dIn false) := by
  refine ⟨fun pins s σ H x y v u Q I rx ry ⟨T, d1, d2, t, c1, c2, q⟩ => ?_, dIn_mono false⟩
  cases d2 with
  | lst ds =>
    obtain ⟨q1, q2, q⟩ := q
    exact op_inD hu pins s σ H x y v u Q I rx ry ⟨_, _, hK ▸ dp_ok c1.fz q1, (hK ▸ dp_ok c2.fz q2 : Dp X.K H y (D.lst ds).py), q1, q2, q _ H (Ex.refl H) (.bl _)⟩
  | tup ds =>
    obtain ⟨q1, q2, q⟩ := q
    exact op_inDT hu pins s σ H x y v u Q I rx ry ⟨_, _, hK ▸ dp_ok c1.fz q1, (hK ▸ dp_ok c2.fz q2 : Dp X.K H y (D.tup ds).py), q1, q2, q _ H (Ex.refl H) (.bl _)⟩
  | str z =>
    cases d1 with
    | str x1 =>
      obtain ⟨c, e, q⟩ := q
      subst e
      cases c1
      cases c2
      exact op_in_sign pins s σ H _ _ v u Q I rx ry ⟨c, z, rfl, rfl, q _ H (Ex.refl H) (.bl _)⟩
    | _ => exact (show False from q).elim
  | _ => cases d1 <;> exact (show False from q).elim
/-- x[i] -/
def dIx : Op2
  | .lst ds, .int i, Q => ∃ d, atI ds i = some d ∧ Q d
  | .tup ds, .int i, Q => ∃ d, atI ds i = some d ∧ Q d
  | .str z, .int i, Q => z.length ≤ sizeLine ∧ ∃ c, atI z.cps.toList i = some c ∧ Q (.str ⟨#[c]⟩)
  | _, _, _ => False
theorem FzL.atI {K : PySem.W.Frag} {H : Hp} {vs : List V} {ds : List D} {i : Int} {d : D} (h : FzL K H vs ds) (e : L2.atI ds i = some d) : ∃ v, L2.atI vs i = some v ∧ Fz K H v d := by
  unfold L2.atI at e ⊢
  rw [h.length]
  cases q : ixN ds.length i with
  | none => rw [q] at e; cases e
  | some j =>
    rw [q] at e
    have e : ds[j]? = some d := e
    have hj : j < vs.length := by rw [h.length]; exact (List.getElem?_eq_some_iff.mp e).1
    exact ⟨vs[j], List.getElem?_eq_getElem hj, h.get (List.getElem?_eq_getElem hj) e⟩
theorem ixx (hK : X.K = G.K := by rfl) : IxX X G dIx := by
  refine ⟨fun value slice pins s σ H x y v u Q I rx ry ⟨T, d1, d2, t, c1, c2, q⟩ hs => ?_, fun a b Q Q' i q => ?_⟩
  · cases d2 with
    | int i =>
      cases d1 with
      | lst ds =>
        obtain ⟨d, h1, q⟩ := q
        obtain ⟨a, vs, rfl, l, f⟩ := c1
        cases c2
        obtain ⟨w, e, fw⟩ := f.atI h1
        exact ix_list value slice pins s σ H _ _ v u Q I rx ry ⟨a, vs, i, w, rfl, rfl, by rw [hK]; exact l, e, q _ H (Ex.refl H) fw⟩ hs
      | tup ds =>
        obtain ⟨d, h1, q⟩ := q
        cases c1 with
        | tup l f =>
          cases c2
          obtain ⟨w, e, fw⟩ := f.atI h1
          exact ix_tup value slice pins s σ H _ _ v u Q I rx ry ⟨_, _, i, w, rfl, rfl, by rw [hK]; exact ex_t hid_ex l, e, q _ H (Ex.refl H) fw⟩ hs
      | str z =>
        obtain ⟨hz, c, h1, q⟩ := q
        cases c1
        cases c2
        exact ix_str value slice pins s σ H _ _ v u Q I rx ry ⟨z, i, c, rfl, rfl, hz, h1, q _ H (Ex.refl H) (.str _)⟩ hs
      | _ => exact (show False from q).elim
    | _ => cases d1 <;> exact (show False from q).elim
  · cases b with
    | int k =>
      cases a with
      | lst ds => obtain ⟨d, h, q⟩ := q; exact ⟨d, h, i _ q⟩
      | tup ds => obtain ⟨d, h, q⟩ := q; exact ⟨d, h, i _ q⟩
      | str z => obtain ⟨h, c, h2, q⟩ := q; exact ⟨h, c, h2, i _ q⟩
      | _ => exact q
    | _ => cases a <;> exact q
end
end Fx

namespace Fx
open PySem PySem.Spec PyProof.Rows L2 Evl Lk

/-! ### calls of built-ins -/
inductive CzL (K : PySem.W.Frag) (T : Addr → Prop) (H : Hp) : List V → List D → Prop
  | nil : CzL K T H [] []
  | cons {v : V} {vs : List V} {d : D} {ds : List D} : Cz K T H v d → CzL K T H vs ds → CzL K T H (v :: vs) (d :: ds)
abbrev OpC := List D → (D → Prop) → Prop
def MonoC (o : OpC) : Prop := ∀ a (Q Q' : D → Prop), (∀ d, Q d → Q' d) → o a Q → o a Q'
def rC (G : Gx) (o : OpC) : List V → Hp → VK → Prop := fun xs H Q => ∃ T ds, Trk T H ∧ CzL G.K T H xs ds ∧ o ds fun d => ∀ v H', Ex H H' → Fz G.K (hid T H') v d → Q v H'
structure CaX (X : Cx) (G : Gx) (f : Value) (o : OpC) : Prop where
  ok : CallR X f (rC G o)
  mono : MonoC o
def cdL : List Sl → Option (List D)
  | [] => some []
  | s :: ss => match s.cd, cdL ss with
    | some d, some ds => some (d :: ds)
    | _, _ => none
def wCB (o : OpC) (wa : WA) : WE := fun env Q => wa env fun ags e => ∃ ss ds, resA ags e = some ss ∧ cdL ss = some ds ∧ o ds fun d => Q (.f d) e
section
variable {X : Cx} {G : Gx} {e : Expr} {es : List Expr} {wa : WA} {w w1 w2 : WE}
theorem args_cz {σ : L2.St} {T0 T : Addr → Prop} {H0 H : Hp} {env0 env : Env} {F0 F : Nat → List Addr} {vs : List V} {Fa : Nat → List Addr} {ags : List Ag} {ss : List Sl} {ds : List D} (r : RE G T H σ env F) (z : ArgR G σ T0 H0 env0 F0 T H env F ags vs Fa) (h : resA ags env = some ss) (hd : cdL ss = some ds) : CzL G.K T H vs ds := by
  obtain ⟨hl, g⟩ := resA_get h
  have key : ∀ (ss : List Sl) (vs : List V) (ds : List D), vs.length = ss.length → (∀ (j : Nat) (s : Sl), ss[j]? = some s → ∃ v fr, vs[j]? = some v ∧ SlR G T H s v fr) → cdL ss = some ds → CzL G.K T H vs ds := by
    intro ss
    induction ss with
    | nil =>
      intro vs ds hl _ h
      cases h
      cases vs with
      | nil => exact .nil
      | cons _ _ => cases hl
    | cons s ss ih =>
      intro vs ds hl hv h
      cases vs with
      | nil => cases hl
      | cons v vs =>
        unfold cdL at h
        cases e1 : s.cd with
        | none => rw [e1] at h; cases h
        | some d =>
          cases e2 : cdL ss with
          | none => rw [e1, e2] at h; cases h
          | some ds' =>
            rw [e1, e2] at h
            cases h
            obtain ⟨v', fr, h1, h2⟩ := hv 0 s rfl
            cases h1
            refine .cons (h2.cz e1) (ih vs ds' (by simpa using hl) (fun j s hj => ?_) e2)
            obtain ⟨v', fr, h1, h2⟩ := hv (j + 1) s (by simpa using hj)
            exact ⟨v', fr, by simpa using h1, h2⟩
  refine key ss vs ds (by rw [z.len, hl]) (fun j s hj => ?_) hd
  rcases g j s hj with ⟨ha, _⟩ | ⟨i, o, ha, rfl, he⟩ | ⟨i, t, ha, he, _, ht⟩
  · obtain ⟨v, h1, h2, _⟩ := z.val j s ha
    exact ⟨v, _, h1, h2⟩
  · obtain ⟨v, h1, h2⟩ := z.slt j i true ha
    obtain ⟨v', h3, h4⟩ := r.slot i _ he
    rw [h1] at h3
    cases h3
    exact ⟨v, _, h2, h4⟩
  · obtain ⟨v, h1, h2⟩ := z.slt j i false ha
    obtain ⟨v', h3, h4⟩ := r.slot i _ he
    rw [h1] at h3
    cases h3
    rcases ht with ⟨o, rfl, rfl⟩ | rfl
    · exact ⟨v, _, h2, h4⟩
    · exact ⟨v, _, h2, h4⟩
theorem mono_cb {o : OpC} (ma : MonoA wa) (mo : MonoC o) : MonoE (wCB o wa) := fun env Q Q' i q => ma _ _ _ (fun ags e ⟨ss, ds, h1, h2, q⟩ => ⟨ss, ds, h1, h2, mo _ _ _ (fun d q => i _ _ q) q⟩) q
theorem ge_cb {o : OpC} (h : PE X e (tCB (rC G o) (tWA G wa))) (ma : MonoA wa) (mo : MonoC o) : GE X G e (wCB o wa) := by
  refine ⟨pe_imp h fun σ H Q ⟨T, env, F, r, q⟩ => ⟨T, env, F, r, ma _ _ _ (fun ags e ⟨ss, ds, h1, h2, q⟩ vs T1 H1 F1 Fa a z => ?_) q⟩, mono_cb ma mo⟩
  refine ⟨T1, ds, a.re.trk, args_cz a.re z h1 h2, mo _ _ _ (fun d q v H2 e2 f2 => ?_) q⟩
  exact q v T1 H2 F1 [] (a.trans r.trk (Att.ex a.re e2)) (res_f f2)
theorem call_imp {f : Value} {r r' : List V → Hp → VK → Prop} (h : CallR X f r) (i : ∀ xs H Q, r' xs H Q → r xs H Q) : CallR X f r' := fun pins s σ H xs us Q I rv q => h pins s σ H xs us Q I rv (i xs H Q q)
theorem cz1 {K : PySem.W.Frag} {T : Addr → Prop} {H : Hp} {vs : List V} {d : D} (h : CzL K T H vs [d]) : ∃ v, vs = [v] ∧ Cz K T H v d := by
  cases h with
  | cons a b => cases b; exact ⟨_, rfl, a⟩
theorem cz2 {K : PySem.W.Frag} {T : Addr → Prop} {H : Hp} {vs : List V} {d d2 : D} (h : CzL K T H vs [d, d2]) : ∃ v v2, vs = [v, v2] ∧ Cz K T H v d ∧ Cz K T H v2 d2 := by
  cases h with
  | cons a b => cases b with
    | cons b c => cases c; exact ⟨_, _, rfl, a, b⟩
def cLen : OpC
  | [.lst ds], Q => Q (.int ds.length)
  | [.tup ds], Q => Q (.int ds.length)
  | [.str x], Q => x.length ≤ sizeLine ∧ Q (.int x.length)
  | [.dic ks ds], Q => Q (.int ds.length)
  | _, _ => False
theorem rd_hid {T : Addr → Prop} {H : Hp} {a : Addr} {o : HO} (l : Rd (hid T H) a o) : Rd H a o := ex_rd hid_ex l
theorem cax_len (hK : X.K = G.K := by rfl) : CaX X G (.builtin "len") cLen := by
  refine ⟨fun pins s σ H xs us Q I rv ⟨T, ds, t, c, q⟩ => ?_, fun a Q Q' i q => ?_⟩
  · unfold cLen at q
    split at q
    · obtain ⟨v, rfl, cv⟩ := cz1 c
      obtain ⟨a, vs, rfl, l, f⟩ := cv
      exact call_len_seq pins s σ H _ us Q I rv ⟨a, vs, rfl, .inl (by rw [hK]; exact l), by rw [f.length]; exact q _ H (Ex.refl H) (.int _)⟩
    · obtain ⟨v, rfl, cv⟩ := cz1 c
      cases cv with
      | tup l f => exact call_len_seq pins s σ H _ us Q I rv ⟨_, _, rfl, .inr (by rw [hK]; exact ex_t hid_ex l), by rw [f.length]; exact q _ H (Ex.refl H) (.int _)⟩
    · obtain ⟨v, rfl, cv⟩ := cz1 c
      cases cv
      exact call_len_str pins s σ H _ us Q I rv ⟨_, rfl, q.1, q.2 _ H (Ex.refl H) (.int _)⟩
    · obtain ⟨v, rfl, cv⟩ := cz1 c
      obtain ⟨a, vs, rfl, l, hl, f⟩ := cv
      obtain ⟨u, rfl, ru⟩ := vals1 rv
      cases ru
      refine d_len I l fun t s' I' => ⟨.int _, H, I', ⟨t, by rw [List.length_zip, hl, Nat.min_self, f.length]⟩, q _ H (Ex.refl H) (.int _)⟩
    · exact q.elim
  · unfold cLen at q ⊢
    split at q <;> simp_all
def cMax2 : OpC
  | [.int i, .int j], Q => Q (.int (if j > i then j else i))
  | _, _ => False
def cMin2 : OpC
  | [.int i, .int j], Q => Q (.int (if j < i then j else i))
  | _, _ => False
theorem cax_max2 (hc : X.calm = true) : CaX X G (.builtin "max") cMax2 := by
  refine ⟨fun pins s σ H xs us Q I rv ⟨T, ds, t, c, q⟩ => ?_, fun a Q Q' i q => ?_⟩
  · unfold cMax2 at q
    split at q
    · obtain ⟨v, v2, rfl, c1, c2⟩ := cz2 c
      cases c1
      cases c2
      exact call_max2 hc pins s σ H _ us Q I rv ⟨_, _, rfl, q _ H (Ex.refl H) (.int _)⟩
    · exact q.elim
  · unfold cMax2 at q ⊢
    split at q <;> simp_all
theorem cax_min2 (hc : X.calm = true) : CaX X G (.builtin "min") cMin2 := by
  refine ⟨fun pins s σ H xs us Q I rv ⟨T, ds, t, c, q⟩ => ?_, fun a Q Q' i q => ?_⟩
  · unfold cMin2 at q
    split at q
    · obtain ⟨v, v2, rfl, c1, c2⟩ := cz2 c
      cases c1
      cases c2
      exact call_min2 hc pins s σ H _ us Q I rv ⟨_, _, rfl, q _ H (Ex.refl H) (.int _)⟩
    · exact q.elim
  · unfold cMin2 at q ⊢
    split at q <;> simp_all
def cInt : OpC
  | [.int i], Q => Q (.int i)
  | [.bl b], Q => Q (.int (if b then 1 else 0))
  | [.str x], Q => x.length ≤ 640 ∧ ∃ n, PySem.intText? x = some n ∧ Q (.int n)
  | _, _ => False
theorem cax_int : CaX X G (.type "int") cInt := by
  refine ⟨fun pins s σ H xs us Q I rv ⟨T, ds, t, c, q⟩ => ?_, fun a Q Q' i q => ?_⟩
  · unfold cInt at q
    split at q
    · obtain ⟨v, rfl, cv⟩ := cz1 c
      cases cv
      exact call_int1 pins s σ H _ us Q I rv (.inl ⟨_, rfl, q _ H (Ex.refl H) (.int _)⟩)
    · obtain ⟨v, rfl, cv⟩ := cz1 c
      cases cv
      exact call_int1 pins s σ H _ us Q I rv (.inr ⟨_, rfl, q _ H (Ex.refl H) (.int _)⟩)
    · obtain ⟨v, rfl, cv⟩ := cz1 c
      cases cv
      obtain ⟨h, n, hn, q⟩ := q
      exact call_int_str pins s σ H _ us Q I rv ⟨_, n, rfl, hn, h, q _ H (Ex.refl H) (.int _)⟩
    · exact q.elim
  · unfold cInt at q ⊢
    split at q
    · exact i _ q
    · exact i _ q
    · obtain ⟨h, n, hn, q⟩ := q
      exact ⟨h, n, hn, i _ q⟩
    · exact q.elim
def cStr : OpC
  | [.int i], Q => i.natAbs.log2 < 1920 ∧ Q (.str (toString i))
  | [.str x], Q => Q (.str x)
  | _, _ => False
theorem cax_str (h2 : CallR X (.type "str") (fun xs H Q => ∃ x, xs = [.str x] ∧ Q (.str x) H)) : CaX X G (.type "str") cStr := by
  refine ⟨fun pins s σ H xs us Q I rv ⟨T, ds, t, c, q⟩ => ?_, fun a Q Q' i q => ?_⟩
  · unfold cStr at q
    split at q
    · obtain ⟨v, rfl, cv⟩ := cz1 c
      cases cv
      exact call_str_int pins s σ H _ us Q I rv ⟨_, rfl, q.1, q.2 _ H (Ex.refl H) (.str _)⟩
    · obtain ⟨v, rfl, cv⟩ := cz1 c
      cases cv
      exact h2 pins s σ H _ us Q I rv ⟨_, rfl, q _ H (Ex.refl H) (.str _)⟩
    · exact q.elim
  · unfold cStr at q ⊢
    split at q <;> simp_all
def cList : OpC
  | [.lst ds], Q => Q (.lst ds)
  | [.tup ds], Q => Q (.lst ds)
  | _, _ => False
theorem cax_list (hK : X.K = G.K := by rfl) : CaX X G (.type "list") cList := by
  refine ⟨fun pins s σ H xs us Q I rv ⟨T, ds, t, c, q⟩ => ?_, fun a Q Q' i q => ?_⟩
  · unfold cList at q
    split at q
    · obtain ⟨v, rfl, cv⟩ := cz1 c
      obtain ⟨a, vs, rfl, l, f⟩ := cv
      exact call_list_of pins s σ H _ us Q I rv ⟨a, vs, rfl, .inl (by rw [hK]; exact l), fun p np => q _ _ (Ex.new np) (fz_new_l t np f)⟩
    · obtain ⟨v, rfl, cv⟩ := cz1 c
      cases cv with
      | tup l f => exact call_list_of pins s σ H _ us Q I rv ⟨_, _, rfl, .inr (by rw [hK]; exact ex_t hid_ex l), fun p np => q _ _ (Ex.new np) (fz_new_l t np f)⟩
    · exact q.elim
  · unfold cList at q ⊢
    split at q <;> simp_all
def cTuple : OpC
  | [.lst ds], Q => Q (.tup ds)
  | [.tup ds], Q => Q (.tup ds)
  | _, _ => False
theorem cax_tuple (hK : X.K = G.K := by rfl) : CaX X G (.type "tuple") cTuple := by
  refine ⟨fun pins s σ H xs us Q I rv ⟨T, ds, t, c, q⟩ => ?_, fun a Q Q' i q => ?_⟩
  · unfold cTuple at q
    split at q
    · obtain ⟨v, rfl, cv⟩ := cz1 c
      obtain ⟨a, vs, rfl, l, f⟩ := cv
      exact call_tuple_of pins s σ H _ us Q I rv ⟨a, vs, rfl, .inl ⟨by rw [hK]; exact l, fun p np => q _ _ (Ex.new np) (fz_new_t t np f)⟩⟩
    · obtain ⟨v, rfl, cv⟩ := cz1 c
      cases cv with
      | tup l f => exact call_tuple_of pins s σ H _ us Q I rv ⟨_, _, rfl, .inr ⟨by rw [hK]; exact ex_t hid_ex l, q _ H (Ex.refl H) (.tup l f)⟩⟩
    · exact q.elim
  · unfold cTuple at q ⊢
    split at q <;> simp_all
/-! isinstance -/
def tyN : D → String
  | .non => "NoneType"
  | .bl _ => "bool"
  | .int _ => "int"
  | .str _ => "str"
  | .lst _ => "list"
  | .tup _ => "tuple"
  | .dic _ _ => "dict"
  | .ty _ => ""
theorem kitD {pins : List (Addr × Obj)} {σ : L2.St} {H : Hp} {s : Shared} {x : V} {u : Value} {d : D} (I : Inv X pins σ H s) (h : Fz X.K H x d) (r : RelV x u) (n : ∀ m, d ≠ .ty m) :
    ∃ P : Heap → Prop, PySem.W.KitX X.K u (.type (tyN d)) P ∧ P s.heap ∧ (∀ (Pt : Addr) (h2 : Heap), (∃ ob, s.heap.get? Pt = some ob ∧ ob.cls = .none) → (∀ b o, b ≠ Pt → s.heap.get? b = some o → h2.get? b = some o) → P h2) ∧ u ≠ .builtin "__main__.__loader__#opaque" := by
  have at_ : ∀ (a : Addr) (T : String), PySem.W.KitAt a T s.heap → ∀ (Pt : Addr) (h2 : Heap), (∃ ob, s.heap.get? Pt = some ob ∧ ob.cls = .none) → (∀ b o, b ≠ Pt → s.heap.get? b = some o → h2.get? b = some o) → PySem.W.KitAt a T h2 := fun a T ⟨o, h1, h2⟩ Pt hp ⟨ob, g1, g2⟩ k => by
    refine ⟨o, k a o (fun e => ?_) h1, h2⟩
    rw [e, g1] at h1
    cases h1
    rw [g2] at h2
    cases h2
  cases h with
  | non => cases r; exact ⟨_, PySem.W.kitx_none, True.intro, fun _ _ _ _ => True.intro, fun z => nomatch z⟩
  | bl b => cases r; exact ⟨_, PySem.W.kitx_bool, True.intro, fun _ _ _ _ => True.intro, fun z => nomatch z⟩
  | int i => obtain ⟨t, rfl⟩ := _root_.id r; exact ⟨_, PySem.W.kitx_int, True.intro, fun _ _ _ _ => True.intro, fun z => nomatch z⟩
  | str y => obtain ⟨t, rfl⟩ := _root_.id r; exact ⟨_, PySem.W.kitx_str, True.intro, fun _ _ _ _ => True.intro, fun z => nomatch z⟩
  | ty m => exact absurd rfl (n m)
  | cls C => exact absurd rfl (n (.cls C))
  | exc a b => exact absurd rfl (n (.exc _ _))
  | lst l f =>
    cases r
    obtain ⟨its, rv, ⟨o, k, h1, h2, _⟩, _⟩ := I.list l
    exact ⟨_, PySem.W.kitx_list, ⟨o, h1, h2⟩, at_ _ _ ⟨o, h1, h2⟩, fun z => nomatch z⟩
  | tup l f =>
    cases r
    obtain ⟨its, rv, ⟨o, h1, h2, _⟩, _⟩ := I.tuple l
    exact ⟨_, PySem.W.kitx_tuple, ⟨o, h1, h2⟩, at_ _ _ ⟨o, h1, h2⟩, fun z => nomatch z⟩
  | dic l e f =>
    cases r
    obtain ⟨_, _, vs, _, o, es, ep, h1, h2, _⟩ := l.ok I.hok
    exact ⟨_, PySem.W.kitx_dict, ⟨o, h1, h2.1⟩, at_ _ _ ⟨o, h1, h2.1⟩, fun z => nomatch z⟩
def isiB (d : D) (n : String) : Option Bool := match d with
  | .ty _ => none
  | d => kitB (tyN d) n
def cIsi : OpC
  | [d, .ty (.bt n)], Q => ∃ b, isiB d n = some b ∧ Q (.bl b)
  | _, _ => False
theorem isiB_ty {d : D} {n : String} {b : Bool} (h : isiB d n = some b) : (∀ m, d ≠ .ty m) ∧ kitB (tyN d) n = some b := by
  cases d <;> first | exact ⟨nofun, h⟩ | cases h
theorem cax_isi (hK : X.K = G.K := by rfl) : CaX X G (.builtin "isinstance") cIsi := by
  refine ⟨fun pins s σ H xs us Q I rv ⟨T, ds, t, c, q⟩ => ?_, fun a Q Q' i q => ?_⟩
  · unfold cIsi at q
    split at q
    · obtain ⟨v, v2, rfl, c1, c2⟩ := cz2 c
      obtain ⟨b, hb, q⟩ := q
      obtain ⟨n, hk⟩ := isiB_ty hb
      cases c2
      obtain ⟨u1, u2, rfl, r1, r2⟩ := vals2 rv
      cases (show u2 = Value.type _ from r2)
      obtain ⟨P, Z, p, _, hx⟩ := kitD I (by rw [hK]; exact c1.fz) r1 n
      exact PySem.W.kia_one Z I.kIn p (kit_ty hk) hx fun tk => ⟨.bl b, H, I.tok tk, rfl, q _ H (Ex.refl H) (.bl b)⟩
    · exact q.elim
  · unfold cIsi at q ⊢
    split at q
    · obtain ⟨b, hb, q⟩ := q
      exact ⟨b, hb, i _ q⟩
    · exact q.elim
/-! ### methods of texts -/
def wJoin (w1 w2 : WE) : WE := fun env Q => w1 env fun r1 e1 => ∃ a, r1 = .f (.str a) ∧ w2 e1 fun r2 e2 => ∃ ds ys, (r2.cd = some (.lst ds) ∨ r2.cd = some (.tup ds)) ∧ ds = ys.map D.str ∧ (ys.map (·.length)).sum + ys.length * a.length ≤ 16777216 ∧ Q (.f (.str (Txt.join a ys))) e2
theorem fz_strs {K : PySem.W.Frag} {H : Hp} : ∀ {ys : List Str} {vs : List V}, FzL K H vs (ys.map D.str) → vs = ys.map V.str
  | [], _, h => by cases h; rfl
  | y :: ys, _, h => by
    cases h with
    | cons a b =>
      cases a
      rw [fz_strs b] <;> rfl
theorem ge_join {o : Expr} {apos pos : Pos} (ho : GE X G o w1) (he : GE X G e w2) (hK : X.K = G.K := by rfl) (hs : starEach [e] X.env = [(false, eval e X.env)] := by rfl) (hbase : attributeBase o "join" X.env (eval o X.env) = eval o X.env := by rfl) (hline : (apos.endLine == pos.line) = true := by rfl) :
    GE X G (.Call (.Attribute o "join" apos) [e] [] pos) (wJoin w1 w2) := by
  refine ⟨pe_imp (pe_join ho.pe he.pe hs hbase hline) fun σ H Q ⟨T, env, F, r, q⟩ => ⟨T, env, F, r, ho.mono _ _ _ (fun s e ⟨a, hs, q⟩ x T1 H1 F1 f1 a1 z1 => ?_) q⟩, fun env Q Q' i q => ho.mono _ _ _ (fun s e ⟨a, hs, q⟩ => ⟨a, hs, he.mono _ _ _ (fun s2 e2 ⟨ds, ys, h1, h2, h3, q⟩ => ⟨ds, ys, h1, h2, h3, i _ _ q⟩) q⟩) q⟩
  subst hs
  have zr := z1.rel.1
  cases zr
  refine ⟨⟨a, rfl⟩, T1, e, F1, a1.re, he.mono _ _ _ (fun s2 e2 ⟨ds, ys, h1, h2, h3, q⟩ y T2 H2 F2 f2 a2 z2 => ?_) q⟩
  subst h2
  have fin := q (.str (Txt.join a ys)) T2 H2 F2 [] (a1.trans r.trk a2) (res_f (.str _))
  rcases h1 with h1 | h1
  · obtain ⟨p, vs, rfl, l, f⟩ := z2.rel.cz h1
    rw [fz_strs f] at l
    exact ⟨a, p, ys, rfl, rfl, .inl (by rw [hK]; exact l), h3, fin⟩
  · have c := z2.rel.cz h1
    have c : Fz G.K (hid T2 H2) y (.tup _) := c
    cases c with
    | tup l f =>
      rw [fz_strs f] at l
      exact ⟨a, _, ys, rfl, rfl, .inr (by rw [hK]; exact ex_t hid_ex l), h3, fin⟩
/-- a method of a text without arguments, by its function -/
def wM0 (o : Str → (D → Prop) → Prop) (w : WE) : WE := fun env Q => w env fun r e => ∃ a, r = .f (.str a) ∧ o a fun d => Q (.f d) e
theorem ge_m0 {o : Str → (D → Prop) → Prop} {r : V → List V → Hp → VK → Prop} (h : PE X e (tM0 r (tW G w))) (hm : MonoE w) (mo : ∀ a (Q Q' : D → Prop), (∀ d, Q d → Q' d) → o a Q → o a Q') (hr : ∀ a H Q T, Trk T H → o a (fun d => ∀ v H', Ex H H' → Fz G.K (hid T H') v d → Q v H') → r (.str a) [] H Q) : GE X G e (wM0 o w) := by
  refine ⟨pe_imp h fun σ H Q ⟨T, env, F, r, q⟩ => ⟨T, env, F, r, hm _ _ _ (fun s e ⟨a, hs, q⟩ x T1 H1 F1 f1 a1 z1 => ?_) q⟩, fun env Q Q' i q => hm _ _ _ (fun s e ⟨a, hs, q⟩ => ⟨a, hs, mo _ _ _ (fun d q => i _ _ q) q⟩) q⟩
  subst hs
  have zr := z1.rel.1
  cases zr
  refine ⟨⟨a, rfl⟩, hr a H1 Q T1 a1.re.trk (mo _ _ _ (fun d q v H2 e2 f2 => ?_) q)⟩
  exact q v T1 H2 F1 [] (a1.trans r.trk (Att.ex a1.re e2)) (res_f f2)
def mUpper (a : Str) (Q : D → Prop) : Prop := a.length ≤ 5592405 ∧ Q (.str (Txt.upper a))
theorem ge_upper {o : Expr} {apos pos : Pos} (ho : GE X G o w) (hbase : attributeBase o "upper" X.env (eval o X.env) = eval o X.env := by rfl) (hline : (apos.endLine == pos.line) = true := by rfl) : GE X G (.Call (.Attribute o "upper" apos) [] [] pos) (wM0 mUpper w) :=
  ge_m0 (pe_upper ho.pe hbase hline) ho.mono (fun a Q Q' i q => ⟨q.1, i _ q.2⟩) fun a H Q T t q => ⟨a, rfl, rfl, q.1, q.2 _ H (Ex.refl H) (.str _)⟩
/-! ### slices -/
abbrev WO := Env → (Option Int → Env → Prop) → Prop
def MonoOp (w : WO) : Prop := ∀ env (Q Q' : Option Int → Env → Prop), (∀ r e, Q r e → Q' r e) → w env Q → w env Q'
def tWO (G : Gx) (w : WO) : TO := fun σ H Q => ∃ T env F, RE G T H σ env F ∧ w env fun i env' => ∀ T' H' F', Att G σ T H env F T' H' env' F' → Q i H'
structure GO (X : Cx) (G : Gx) (e : Option Expr) (w : WO) : Prop where
  po : PO X e (tWO G w)
  mono : MonoOp w
theorem po_imp {e : Option Expr} {t t' : TO} (h : PO X e t) (i : ∀ σ H Q, t' σ H Q → t σ H Q) : PO X e t' := ⟨fun pins s σ H Q I q => h.run pins s σ H Q I (i σ H Q q)⟩
def woN : WO := fun env Q => Q none env
def woS (w : WE) : WO := fun env Q => w env fun r e => ∃ i, r = .f (.int i) ∧ Q (some i) e
theorem go_none : GO X G none woN := ⟨po_imp po_none fun σ H Q ⟨T, env, F, r, q⟩ => q T H F (.refl r), fun env Q Q' i q => i _ _ q⟩
theorem go_some (h : GE X G e w) : GO X G (some e) (woS w) := by
  refine ⟨po_imp (po_some h.pe) fun σ H Q ⟨T, env, F, r, q⟩ => ⟨T, env, F, r, h.mono _ _ _ (fun s e ⟨i, hs, q⟩ x T1 H1 F1 f1 a1 z1 => ?_) q⟩, fun env Q Q' ii q => h.mono _ _ _ (fun s e ⟨i, hs, q⟩ => ⟨i, hs, ii _ _ q⟩) q⟩
  subst hs
  have zr := z1.rel.1
  cases zr
  exact ⟨i, rfl, q T1 H1 F1 a1⟩
def cutD (xs : List D) (lo hi : Option Int) : List D := (xs.drop (HT.sIx xs.length 0 lo)).take (HT.sIx xs.length xs.length hi - HT.sIx xs.length 0 lo)
def dSl : D → Option Int → Option Int → (D → Prop) → Prop
  | .lst ds, lo, hi, Q => Q (.lst (cutD ds lo hi))
  | .tup ds, lo, hi, Q => Q (.tup (cutD ds lo hi))
  | .str z, lo, hi, Q => z.length ≤ sizeLine ∧ Q (.str (cutS z lo hi))
  | _, _, _, _ => False
def rSl (G : Gx) : V → Option Int → Option Int → Hp → VK → Prop := fun x lo hi H Q => ∃ T d, Trk T H ∧ Cz G.K T H x d ∧ dSl d lo hi fun d => ∀ v H', Ex H H' → Fz G.K (hid T H') v d → Q v H'
theorem FzL.cut {K : PySem.W.Frag} {H : Hp} {vs : List V} {ds : List D} (h : FzL K H vs ds) (lo hi : Option Int) : FzL K H (cutV vs lo hi) (cutD ds lo hi) := by
  unfold cutV cutD
  rw [h.length]
  exact (h.drop _).take _
theorem cutD_whole {ds : List D} {lo hi : Option Int} (h : HT.sIx ds.length 0 lo = 0 ∧ HT.sIx ds.length ds.length hi = ds.length) : cutD ds lo hi = ds := by
  unfold cutD
  rw [h.1, h.2]
  simp
theorem slx (hK : X.K = G.K := by rfl) : L2.SlR X (rSl G) := by
  intro pins s σ H x v vl vu lo hi sl Q I rx hs pl pu ⟨T, d, t, c, q⟩
  cases d with
  | lst ds =>
    obtain ⟨a, vs, rfl, l, f⟩ := c
    exact sl_list pins s σ H _ v vl vu lo hi sl Q I rx hs pl pu ⟨a, vs, rfl, by rw [hK]; exact l, fun p np => q _ _ (Ex.new np) (fz_new_l t np (f.cut lo hi))⟩
  | tup ds =>
    cases c with
    | tup l f =>
      have k := ex_t (K := G.K) hid_ex l
      refine sl_tupA pins s σ H _ v vl vu lo hi sl Q I rx hs pl pu ⟨_, _, rfl, by rw [hK]; exact k, fun h => ?_, fun _ p np => q _ _ (Ex.new np) (fz_new_t t np (f.cut lo hi))⟩
      rw [f.length] at h
      refine q _ H (Ex.refl H) ?_
      rw [cutD_whole h]
      exact .tup l f
  | str z =>
    cases c
    exact sl_str pins s σ H _ v vl vu lo hi sl Q I rx hs pl pu ⟨z, rfl, q.1, q.2 _ H (Ex.refl H) (.str _)⟩
  | _ => exact (show False from q).elim
theorem dSl_mono {d : D} {lo hi : Option Int} {Q Q' : D → Prop} (i : ∀ d, Q d → Q' d) (q : dSl d lo hi Q) : dSl d lo hi Q' := by
  cases d <;> first | exact i _ q | exact ⟨q.1, i _ q.2⟩ | exact q
/-- x[lo:hi]: a value; or the thing at a slot -/
def wSl (w : WE) (lo hi : WO) : WE := fun env Q => w env fun r e => ∃ d, r = .f d ∧ lo e fun l e2 => hi e2 fun u e3 => dSl d l u fun d => Q (.f d) e3
def wSlP (w : WP) (lo hi : WO) : WE := fun env Q => w env fun r => ∃ d, r.cd = some d ∧ lo env fun l e2 => hi e2 fun u e3 => e3 = env ∧ dSl d l u fun d => Q (.f d) env
theorem ge_sl {lo hi : Option Expr} {wl wh : WO} {pos p2 : Pos} (he : GE X G e w) (hl : GO X G lo wl) (hu : GO X G hi wh) (hK : X.K = G.K := by rfl) : GE X G (.Subscript e (.Slice lo hi none p2) pos) (wSl w wl wh) := by
  refine ⟨pe_imp (pe_slice (slx hK) he.pe hl.po hu.po) fun σ H Q ⟨T, env, F, r, q⟩ => ⟨T, env, F, r, he.mono _ _ _ (fun s e ⟨d, hs, q⟩ x T1 H1 F1 f1 a1 z1 => ?_) q⟩, fun env Q Q' i q => he.mono _ _ _ (fun s e ⟨d, hs, q⟩ => ⟨d, hs, hl.mono _ _ _ (fun l e2 q => hu.mono _ _ _ (fun u e3 q => dSl_mono (fun d q => i _ _ q) q) q) q⟩) q⟩
  subst hs
  refine ⟨T1, e, F1, a1.re, hl.mono _ _ _ (fun l e2 q T2 H2 F2 a2 => ⟨T2, e2, F2, a2.re, hu.mono _ _ _ (fun u e3 q T3 H3 F3 a3 => ?_) q⟩) q⟩
  refine ⟨T3, d, a3.re.trk, Cz.of (Fz.att a2.re a3 (Fz.att a1.re a2 z1.rel.1)), dSl_mono (fun d q v H4 e4 f4 => ?_) q⟩
  exact q v T3 H4 F3 [] (((a1.trans r.trk a2).trans r.trk a3).trans r.trk (Att.ex a3.re e4)) (res_f f4)
/-! ### all(..) over the signs of a text, over the items of a tuple -/
def nmB (lo hi : Str) (a : Str) : Bool := (List.range a.cps.size).all (GxR.trF (btw lo hi) a.cps.toList)
def wAllSg (lo hi : Str) (w : WE) : WE := fun env Q => w env fun r e => ∃ a, r = .f (.str a) ∧ Q (.f (.bl (nmB lo hi a))) e
theorem ge_allSg {P : Addr} {scope : Scope} {x : Str} {lo hi : Str} {j1 j2 : Nat} {p1 p2 p3 p4 : Pos} (h : PE X e (tAllG X P scope x (.Compare (.Constant (.str lo) j1 p1) [.LtE, .LtE] [.Name x p2, .Constant (.str hi) j2 p3] p4) (tW G w))) (hm : MonoE w) (hP : P ∈ G.tabs)
    (hk : scope.kind = .function) (hl : scope.names.lookup x = some .local) (hd : (x == ("__debug__" : Str)) = false := by decide) : GE X G e (wAllSg lo hi w) := by
  refine ⟨pe_imp h fun σ H Q ⟨T, env, F, r, q⟩ => ⟨T, env, F, r, hm _ _ _ (fun s e ⟨a, hs, q⟩ v T1 H1 F1 f1 a1 z1 => ?_) q⟩, fun env Q Q' i q => hm _ _ _ (fun s e ⟨a, hs, q⟩ => ⟨a, hs, i _ _ q⟩) q⟩
  subst hs
  have zr := z1.rel.1
  cases zr
  have hT := (a1.re.tab P hP).1
  exact ⟨hT, _, _, ok_signs hk hl hT hd, q _ T1 H1 F1 [] a1 (res_f (.bl _))⟩
def isStr : D → Bool
  | .str _ => true
  | _ => false
def wAllStr (w : WE) : WE := fun env Q => w env fun r e => ∃ ds, r = .f (.tup ds) ∧ (∀ d ∈ ds, ∀ m, d ≠ .ty m) ∧ Q (.f (.bl (ds.all isStr))) e
theorem isi_str {d : D} (n : ∀ m, d ≠ .ty m) : kitB (tyN d) "str" = some (isStr d) := by
  cases d with
  | ty m => exact absurd rfl (n m)
  | _ => first | rfl | (show kitB _ _ = some _; simp only [tyN, isStr]; decide +kernel)
theorem elt_isiD {scope : Scope} {x : Str} {P : Addr} {pins : List (Addr × Obj)} {σ : L2.St} {H : Hp} {s1 : Shared} {vs : List V} {ds : List D} {its : List Value} {p1 p2 p3 p4 : Pos} (I : Inv X pins σ H s1) (hP : H P = some (TabO P)) (hk : scope.kind = .function) (hl : scope.names.lookup x = some .local) (hd : (x == ("__debug__" : Str)) = false)
    (g1 : scope.names.lookup ("isinstance" : Str) = some .globalImplicit) (m1 : X.mg "isinstance" = none) (g2 : scope.names.lookup ("str" : Str) = some .globalImplicit) (m2 : X.mg "str" = none) (fz : FzL X.K H vs ds) (nt : ∀ d ∈ ds, ∀ m, d ≠ .ty m) (rv : Vals vs its) :
    EltOk X scope x (.Call (.Name "isinstance" p1) [.Name x p2, .Name "str" p3] [] p4) P s1 (fun i v => its.toArray[i]? = some v) (fun i => (ds[i]?.map isStr).getD false) := by
  intro cenv A' E' i v s₂ m₂ GE hA hD hU hv hn hm kp
  have kb := ge_kb I hP kp
  have hv2 : its[i]? = some v := by simpa using hv
  have hi : i < its.length := (List.getElem?_eq_some_iff.mp hv2).1
  have hl1 := rv.length
  have hl2 := fz.length
  have hvi : i < vs.length := by omega
  have hdi : i < ds.length := by omega
  obtain ⟨u, hu, ru⟩ := rv.get (List.getElem?_eq_getElem hvi)
  rw [hv2] at hu
  cases hu
  have fd := fz.get (List.getElem?_eq_getElem hvi) (List.getElem?_eq_getElem hdi)
  have n := nt _ (List.getElem_mem hdi)
  obtain ⟨K1, Z, p, pk, hx⟩ := kitD I fd ru n
  obtain ⟨ps, hps⟩ := tab_at I hP
  have p' := pk P s₂.heap ⟨_, hps, rfl⟩ kp
  refine wpAny_Call_Name_kw (ge_blt I kb GE hk g1 m1 (u := .builtin "isinstance") (by first | decide +kernel | kernel_rfl) (by decide) (by decide) ?_)
  refine PyProof.Rows.callWith_builtin1 ?_ (by rfl) (by rfl)
  show wpAny _ _ (spliced [(false, eval (.Name x p2) cenv), (false, eval (.Name "str" p3) cenv)]) _ _ s₂
  refine Calls.spliced_cons (ge_own GE hk hl hn hm hd (Calls.spliced_cons (ge_blt I kb GE hk g2 m2 (u := .type "str") (by first | decide +kernel | kernel_rfl) (by decide) (by decide) (Calls.spliced_nil ?_))))
  refine PySem.W.kia_one Z (I.ok.mod.kin.keeps kb) p' (kit_ty (isi_str n)) hx fun tk => ⟨?_, GxR.keeps_tok _ _⟩
  simp only [List.getElem?_eq_getElem hdi]
  rfl
theorem ge_allStr {P : Addr} {scope : Scope} {x : Str} {p1 p2 p3 p4 : Pos} (h : PE X e (tAllG X P scope x (.Call (.Name "isinstance" p1) [.Name x p2, .Name "str" p3] [] p4) (tW G w))) (hm : MonoE w) (hP : P ∈ G.tabs)
    (hk : scope.kind = .function) (hl : scope.names.lookup x = some .local) (g1 : scope.names.lookup ("isinstance" : Str) = some .globalImplicit) (m1 : X.mg "isinstance" = none) (g2 : scope.names.lookup ("str" : Str) = some .globalImplicit) (m2 : X.mg "str" = none) (hK : X.K = G.K := by rfl)
    (hd : (x == ("__debug__" : Str)) = false := by decide) : GE X G e (wAllStr w) := by
  refine ⟨pe_imp h fun σ H Q ⟨T, env, F, r, q⟩ => ⟨T, env, F, r, hm _ _ _ (fun s e ⟨ds, hs, nt, q⟩ v T1 H1 F1 f1 a1 z1 => ?_) q⟩, fun env Q Q' i q => hm _ _ _ (fun s e ⟨ds, hs, nt, q⟩ => ⟨ds, hs, nt, i _ _ q⟩) q⟩
  subst hs
  have hT := (a1.re.tab P hP).1
  have fz := z1.rel.1
  cases fz with
  | tup l f =>
    have k := ex_t (K := G.K) hid_ex l
    refine ⟨hT, ds.length, _, fun pins s u I ru => ?_, (by rw [all_ix]; exact q _ T1 H1 F1 [] a1 (res_f (.bl _)))⟩
    obtain rfl : u = Value.ref _ := ru
    rw [← hK] at k
    obtain ⟨its, rv, ⟨o, h1, h2, n, h3⟩, _⟩ := I.tuple k
    refine ⟨fun i v => its.toArray[i]? = some v, ?_, elt_isiD I hT hk hl hd g1 m1 g2 m2 (by rw [hK]; exact f.ex hid_ex) nt rv⟩
    have hlen : its.toArray.size = ds.length := by rw [List.size_toArray, ← rv.length, f.length]
    rw [← hlen]
    exact it_tup (tab_lt I hT) ⟨o, h1, h2, n, h3⟩ (tup_ne I hT k)
end
end Fx

namespace Fx
open PySem PySem.Spec PyProof.Rows L2 Evl Lk

/-! ### not in -/
theorem op_ninT {X : Cx} (hu : X.A.units + 65 < cLine) : OpR X (compareOp .NotIn) (fun x y H Q => ∃ d ds, Dp X.K H x d ∧ Dp X.K H y (.tuple ds) ∧ SeqAt.shaped d = true ∧ SeqAt.shaped (.tuple ds) = true ∧ Q (.bl (!ds.any fun z => PyData.eqv z d)) H) := by
  intro pins s σ H x y v u Q I rx ry h
  obtain ⟨d, ds, hd, he, sd, se, q⟩ := h
  obtain ⟨as, r1⟩ := Dp.reads I d x v hd rx
  obtain ⟨bs, r2⟩ := Dp.reads I (.tuple ds) y u he ry
  exact SeqAt.notIn_tuple_reads r2 r1 (SeqAt.canLay_of_shaped se) (SeqAt.canLay_of_shaped sd) (room_in_shaped sd hu) ⟨.bl _, H, I, rfl, q⟩
section
variable {X : Cx} {G : Gx}
theorem opx_nin (hu : X.A.units + 65 < cLine) (hK : X.K = G.K := by rfl) : OpX X G (compareOp .NotIn) (dIn true) := by
  refine ⟨fun pins s σ H x y v u Q I rx ry ⟨T, d1, d2, t, c1, c2, q⟩ => ?_, dIn_mono true⟩
  cases d2 with
  | lst ds =>
    obtain ⟨q1, q2, q⟩ := q
    exact op_notInD hu pins s σ H x y v u Q I rx ry ⟨_, _, hK ▸ dp_ok c1.fz q1, (hK ▸ dp_ok c2.fz q2 : Dp X.K H y (D.lst ds).py), q1, q2, q _ H (Ex.refl H) (.bl _)⟩
  | tup ds =>
    obtain ⟨q1, q2, q⟩ := q
    exact op_ninT hu pins s σ H x y v u Q I rx ry ⟨_, _, hK ▸ dp_ok c1.fz q1, (hK ▸ dp_ok c2.fz q2 : Dp X.K H y (D.tup ds).py), q1, q2, q _ H (Ex.refl H) (.bl _)⟩
  | str z =>
    cases d1 with
    | str x1 =>
      obtain ⟨c, e, q⟩ := q
      subst e
      cases c1
      cases c2
      exact op_notIn_sign pins s σ H _ _ v u Q I rx ry ⟨c, z, rfl, rfl, q _ H (Ex.refl H) (.bl _)⟩
    | _ => exact (show False from q).elim
  | _ => cases d1 <;> exact (show False from q).elim

/-! ### a call by keywords -/
structure GK (X : Cx) (G : Gx) (ks : List Keyword) (w : WA) : Prop where
  pk : PK X ks (tWA G w)
  mono : MonoA w
theorem pk_imp {ks : List Keyword} {t t' : TA} (h : PK X ks t) (i : ∀ σ H Q, t' σ H Q → t σ H Q) : PK X ks t' := ⟨fun pos pins s σ H Q I q => h.run pos pins s σ H Q I (i σ H Q q)⟩
theorem gk_nil : GK X G [] waNil := ⟨pk_imp pk_nil fun σ H Q ⟨T, env, F, r, q⟩ => q [] T H F (fun _ => []) (.refl r) ⟨rfl, fun _ _ h => (by cases h), fun _ _ _ h => (by cases h), fun _ _ h => (by cases h), fun _ _ h => (by cases h)⟩, ga_nil (X := X) (G := G) |>.mono⟩
variable {e : Expr} {w w1 w2 : WE} {wr wa : WA} {es : List Expr}
theorem gk_cons {ks : List Keyword} {nm : Option Str} {kpos : Pos} (ha : GE X G e w) (hr : GK X G ks wr) : GK X G (⟨nm, e, kpos⟩ :: ks) (waCons w wr) :=
  ⟨pk_imp (pk_cons ha.pe hr.pk) fun σ H Q h => tc_cons ha.mono hr.mono h, fun env Q Q' i q => ha.mono env _ _ (fun s e ⟨nv, q⟩ => ⟨nv, hr.mono e _ _ (fun as e2 q => i _ _ q) q⟩) q⟩
theorem gk_slot {i : Nat} {own : Bool} {ks : List Keyword} {nm : Option Str} {kpos : Pos} (hv : PE X e (tVar i)) (hr : GK X G ks wr) : GK X G (⟨nm, e, kpos⟩ :: ks) (waSlot i own wr) :=
  ⟨pk_imp (pk_cons hv hr.pk) fun σ H Q h => tc_slot hr.mono h, fun env Q Q' i ⟨h, q⟩ => ⟨h, hr.mono _ _ _ (fun as e2 q => i _ _ q) q⟩⟩
/-- what a call of a def makes of its arguments, whichever way they come -/
theorem call_core {W : WD} {σ : L2.St} {H : Hp} {Q : VK} {T : Addr → Prop} {env : Env} {F : Nat → List Addr} (r : RE G T H σ env F) (mw : MonoD W) (ma : MonoA wa) (hK : X.K = G.K)
    (q : wCall W wa env fun r env' => ∀ v T' H' F' fr, Att G σ T H env F T' H' env' F' → Res G T H env F T' H' env' F' r v fr → Q v H') :
    wa env fun ags e1 => ∀ vs T1 H1 F1 Fa, Att G σ T H env F T1 H1 e1 F1 → ArgR G σ T H env F T1 H1 e1 F1 ags vs Fa → (∃ as, resA ags e1 = some as ∧ W as fun _ _ => True) ∧ spW X.K G.tabs W vs H1 Q E0 :=
  ma _ _ _ (fun ags e1 ⟨as, h1, h2, h3⟩ vs T1 H1 F1 Fa a1 z1 => ⟨⟨as, h1, mw _ _ _ (fun _ _ _ => True.intro) h3⟩, by
    rw [hK]
    refine ⟨T1, as, argF ags Fa F1, call_args a1.re z1 h1 h2, mw _ _ _ (fun rs as' ⟨hl, q⟩ v T' H' F' fr r' hv zs => ?_) h3⟩
    obtain ⟨F2, a2, z2⟩ := call_att r a1 z1 h1 h2 hl r' hv zs
    exact q v T' H' F2 fr a2 z2⟩) q
theorem mono_call {W : WD} (mw : MonoD W) (ma : MonoA wa) : MonoE (wCall W wa) := fun env Q Q' i q => ma _ _ _ (fun ags e1 ⟨as, h1, h2, h3⟩ => ⟨as, h1, h2, mw _ _ _ (fun r as' ⟨l, q⟩ => ⟨l, i _ _ q⟩) h3⟩) q
theorem ge_ck {x : Str} {k j : Nat} {W : WD} {tabs : List Addr} {p pos : Pos} {kws : List Keyword} {ks : List Str} (c : CalK X.prog X.w X.K X.mg X.base k x (spW X.K tabs W) ks) (hr : Room j X.A) (hk : k ≤ j) (hg : Gl X x) (hK : X.K = G.K) (ht : tabs = G.tabs) (mw : MonoD W)
    (hlen : ∀ as Q, W as Q → as.length = ks.length) (ha : GK X G kws wa)
    (hall : (backToKw pos (keywordEach kws X.env)).all (·.1.isSome) = true := by rfl) (hks : (backToKw pos (keywordEach kws X.env)).filterMap (·.1) = ks := by rfl) (hdb : (x == ("__debug__" : Str)) = false := by decide)
    (hpl : ((backTo pos (starEach [] X.env)).any (·.1) || (backToKw pos (keywordEach kws X.env)).any (·.1.isNone)) = false := by rfl) :
    GE X G (.Call (.Name x p) [] kws pos) (wCall W wa) := by
  subst ht
  refine ⟨pe_imp (pe_ck c hr hk hg ha.pk hall hks hdb hpl) fun σ H Q ⟨T, env, F, r, q⟩ => ⟨T, env, F, r, ha.mono _ _ _ (fun ags e1 h vs T1 H1 F1 Fa a1 z1 => ?_) (call_core r mw ha.mono hK q)⟩, mono_call mw ha.mono⟩
  obtain ⟨⟨as, h1, h2⟩, h3⟩ := h vs T1 H1 F1 Fa a1 z1
  refine ⟨?_, h3⟩
  rw [z1.len, ← hlen as _ h2]
  exact (resA_get h1).1.symm

/-! ### {} -/
theorem ge_dnew {pos : Pos} : GE X G (.Dict [] [] pos) (fun env Q => Q (.f (.dic [] [])) env) := by
  refine ⟨pe_imp pe_dnewK fun σ H Q ⟨T, env, F, r, q⟩ p np => ?_, fun env Q Q' i q => i _ _ q⟩
  exact q (.ref p) T _ F [] (Att.ex r (Ex.new np)) (res_f (.dic (ks := []) (vs := []) (Rd.of (hid_of upd_same (nT r.trk np))) rfl .nil))

/-! ### all, any of a list of truths -/
def cAll : OpC
  | [.lst ds], Q => ∃ bs : List Bool, ds = bs.map D.bl ∧ Q (.bl (bs.all id))
  | _, _ => False
def cAny : OpC
  | [.lst ds], Q => ∃ bs : List Bool, ds = bs.map D.bl ∧ Q (.bl (bs.any id))
  | _, _ => False
theorem fz_bls {K : PySem.W.Frag} {H : Hp} : ∀ {ys : List Bool} {vs : List V}, FzL K H vs (ys.map D.bl) → vs = ys.map V.bl
  | [], _, h => by cases h; rfl
  | y :: ys, _, h => by
    cases h with
    | cons a b =>
      cases a
      rw [fz_bls b] <;> rfl
theorem cax_all (hc : X.calm = true) (hK : X.K = G.K := by rfl) : CaX X G (.builtin "all") cAll := by
  refine ⟨fun pins s σ H xs us Q I rv ⟨T, ds, t, c, q⟩ => ?_, fun a Q Q' i q => ?_⟩
  · unfold cAll at q
    split at q
    · obtain ⟨bs, rfl, q⟩ := q
      obtain ⟨v, rfl, cv⟩ := cz1 c
      obtain ⟨a, vs, rfl, l, f⟩ := cv
      rw [fz_bls f] at l
      exact cr_all hc pins s σ H _ us Q I rv ⟨a, bs, rfl, by rw [hK]; exact l, q _ H (Ex.refl H) (.bl _)⟩
    · exact q.elim
  · unfold cAll at q ⊢
    split at q
    · obtain ⟨bs, rfl, q⟩ := q
      exact ⟨bs, rfl, i _ q⟩
    · exact q.elim
theorem cax_any (hc : X.calm = true) (hK : X.K = G.K := by rfl) : CaX X G (.builtin "any") cAny := by
  refine ⟨fun pins s σ H xs us Q I rv ⟨T, ds, t, c, q⟩ => ?_, fun a Q Q' i q => ?_⟩
  · unfold cAny at q
    split at q
    · obtain ⟨bs, rfl, q⟩ := q
      obtain ⟨v, rfl, cv⟩ := cz1 c
      obtain ⟨a, vs, rfl, l, f⟩ := cv
      rw [fz_bls f] at l
      exact cr_any hc pins s σ H _ us Q I rv ⟨a, bs, rfl, by rw [hK]; exact l, q _ H (Ex.refl H) (.bl _)⟩
    · exact q.elim
  · unfold cAny at q ⊢
    split at q
    · obtain ⟨bs, rfl, q⟩ := q
      exact ⟨bs, rfl, i _ q⟩
    · exact q.elim

/-! ### methods of a list that change nothing -/
abbrev FM := List D → List D → (D → Prop) → Prop
def MonoFM (m : FM) : Prop := ∀ as ds (Q Q' : D → Prop), (∀ a, Q a → Q' a) → m as ds Q → m as ds Q'
def rFM (G : Gx) (m : FM) : V → List V → Hp → VK → Prop := fun x ws H Q => ∃ T ds as, Trk T H ∧ Cz G.K T H x (.lst ds) ∧ CzL G.K T H ws as ∧ m as ds fun d => ∀ v H', Ex H H' → Fz G.K (hid T H') v d → Q v H'
def wFM (m : FM) (w : WE) (wa : WA) : WE := fun env Q => w env fun r e => ∃ ds, r = .f (.lst ds) ∧ wa e fun ags e2 => ∃ ss as, resA ags e2 = some ss ∧ cdL ss = some as ∧ m as ds fun d => Q (.f d) e2
theorem ge_fm {m : FM} {e : Expr} (h : PE X e (tBM X.K "list" (rFM G m) (tW G w) (tWA G wa))) (hm : MonoFM m) (hw : MonoE w) (ha : MonoA wa) (hK : X.K = G.K := by rfl) : GE X G e (wFM m w wa) := by
  refine ⟨pe_imp h fun σ H Q ⟨T, env, F, r, q⟩ => ⟨T, env, F, r, hw _ _ _ (fun s e ⟨ds, hs, q⟩ x T1 H1 F1 f1 a1 z1 => ?_) q⟩, fun env Q Q' i q => hw _ _ _ (fun s e ⟨ds, hs, q⟩ => ⟨ds, hs, ha _ _ _ (fun ags e2 ⟨ss, as, h1, h2, q⟩ => ⟨ss, as, h1, h2, hm _ _ _ _ (fun d q => i _ _ q) q⟩) q⟩) q⟩
  subst hs
  obtain ⟨a, vs, rfl, l, f⟩ := Cz.of z1.rel.1
  refine ⟨.inl ⟨rfl, vs, by rw [hK]; exact l⟩, T1, e, F1, a1.re, ha _ _ _ (fun ags e2 ⟨ss, as, h1, h2, q⟩ ws T2 H2 F2 Fa a2 z2 => ?_) q⟩
  refine ⟨T2, ds, as, a2.re.trk, Cz.of (Fz.att a1.re a2 z1.rel.1), args_cz a2.re z2 h1 h2, hm _ _ _ _ (fun d q v H3 e3 f3 => ?_) q⟩
  exact q v T2 H3 F2 [] (((a1.trans r.trk a2).trans r.trk (Att.ex a2.re e3))) (res_f f3)
/-- the first place of an equal one -/
def fIndex : FM := fun as ds Q => ∃ d j z, as = [d] ∧ okPy d = true ∧ okPy (.lst ds) = true ∧ ds[j]? = some z ∧ PyData.eqv z.py d.py = true ∧ (∀ m z', m < j → ds[m]? = some z' → PyData.eqv z'.py d.py = false) ∧ Q (.int (j : Nat))
theorem mono_index : MonoFM fIndex := fun as ds Q Q' i ⟨d, j, z, h1, h2, h3, h4, h5, h6, q⟩ => ⟨d, j, z, h1, h2, h3, h4, h5, h6, i _ q⟩
theorem pyL_get : ∀ (ds : List D) (j : Nat), (D.pyL ds)[j]? = (ds[j]?).map D.py
  | [], _ => rfl
  | _ :: _, 0 => rfl
  | _ :: ds, j + 1 => by
    show (D.pyL ds)[j]? = _
    rw [pyL_get ds j] <;> rfl
theorem mtx_index (hu : X.A.units + 65 < cLine) (hK : X.K = G.K := by rfl) : MtR X "list.index" (rFM G fIndex) := by
  refine mt_imp (mt_indexD hu) fun x ws H Q ⟨T, ds, as, t, c, cl, d, j, z, h1, h2, h3, h4, h5, h6, q⟩ => ?_
  subst h1
  obtain ⟨v, rfl, cv⟩ := cz1 cl
  have cx := c
  obtain ⟨a, vs, rfl, l, f⟩ := c
  refine ⟨a, v, d.py, D.pyL ds, j, z.py, rfl, rfl, (hK ▸ dp_ok cx.fz h3 : Dp X.K H (.ref a) (D.lst ds).py), hK ▸ dp_ok cv.fz h2, h3, h2, by rw [pyL_get, h4]; rfl, h5, fun m z' hm hz => ?_, q _ H (Ex.refl H) (.int _)⟩
  rw [pyL_get] at hz
  cases e : ds[m]? with
  | none => rw [e] at hz; cases hz
  | some y => rw [e] at hz; cases hz; exact h6 m y hm e

/-! ### str -/
theorem str_non {Q : Value → Shared → Prop} {prog : Program} {wo : World} {A : Around} {E : Value → Shared → Prop} {s : Shared} (h : Q (.str "None" s.toks) { s with toks := s.toks + 1 }) : wpAny (model prog wo) A (call (.type "str") [.none]) Q E s :=
  callType_new F.called_str (by decide) (F.typeCall_str_1 _) (F.newCall_str_1 _) (fun obj => F.args_object_init_2 obj _) F.entry_str_new
    (meets_str_new (S := fun _ R s => R (.ok (.ret (.str "None" s.toks))) { s with toks := s.toks + 1 }) fun _ _ _ _ s hq =>
      wpAny_strOf_gives rfl (typeIs_none s) F.slot_NoneType_str F.slot_NoneType_repr F.entry_NoneType_repr (F.args_NoneType_repr_1 _) gives_none_repr hq (hsz := by decide)) ⟨typeIs_str _ _ _, h⟩
def cStrA : OpC
  | [.int i], Q => i.natAbs.log2 < 1920 ∧ Q (.str (toString i))
  | [.str x], Q => Q (.str x)
  | [.bl b], Q => Q (.str (if b then "True" else "False"))
  | [.non], Q => Q (.str "None")
  | _, _ => False
theorem cax_strA : CaX X G (.type "str") cStrA := by
  refine ⟨fun pins s σ H xs us Q I rv ⟨T, ds, t, c, q⟩ => ?_, fun a Q Q' i q => ?_⟩
  · unfold cStrA at q
    split at q
    · obtain ⟨v, rfl, cv⟩ := cz1 c
      cases cv
      exact call_str_int pins s σ H _ us Q I rv ⟨_, rfl, q.1, q.2 _ H (Ex.refl H) (.str _)⟩
    · obtain ⟨v, rfl, cv⟩ := cz1 c
      cases cv
      obtain ⟨u, rfl, t1, rfl⟩ := vals1 rv
      exact PySem.P.str_of_str ⟨.str _, H, I, ⟨t1, rfl⟩, q _ H (Ex.refl H) (.str _)⟩
    · obtain ⟨v, rfl, cv⟩ := cz1 c
      cases cv
      obtain ⟨u, rfl, ru⟩ := vals1 rv
      cases ru
      exact PySem.P.str_of_bool ⟨.str _, H, I.tok _, ⟨_, rfl⟩, q _ H (Ex.refl H) (.str _)⟩
    · obtain ⟨v, rfl, cv⟩ := cz1 c
      cases cv
      obtain ⟨u, rfl, ru⟩ := vals1 rv
      cases ru
      exact str_non ⟨.str _, H, I.tok _, ⟨_, rfl⟩, q _ H (Ex.refl H) (.str _)⟩
    · exact q.elim
  · unfold cStrA at q ⊢
    split at q <;> simp_all

end
/-! ### [::-1] -/
section
variable {prog : Program} {wo : World} {A : Around} {E : Value → Shared → Prop} {s : Shared}
theorem adj_rev (n : Nat) : Builtin.Slice.sliceAdjust none none (-1) (n : Int) = ((n : Int) - 1, -1) := by
  unfold Builtin.Slice.sliceAdjust
  rfl
theorem places_rev (n : Nat) : Builtin.Slice.slicePlaces ((n : Int) - 1) (-1) (-1) = n := by
  unfold Builtin.Slice.slicePlaces
  rw [if_neg (show ¬ ((-1 : Int) > 0) by omega)]
  split
  · rw [show ((n : Int) - 1 - -1 - 1) = (n : Int) - 1 by omega, show (- -1 : Int) = 1 by omega, Int.ediv_one]
    omega
  · omega
theorem pick_rev (xs : Array Value) : ((List.range xs.size).filterMap fun (m : Nat) => xs[(((xs.size : Nat) : Int) - 1 + (m : Int) * (-1)).toNat]?) = xs.toList.reverse := by
  apply List.ext_getElem?
  intro i
  have cong : ∀ (l : List Nat) (f g : Nat → Option Value), (∀ m ∈ l, f m = g m) → l.filterMap f = l.filterMap g := by
    intro l f g h
    induction l with
    | nil => rfl
    | cons a l ih => rw [List.filterMap_cons, List.filterMap_cons, h a (List.mem_cons_self ..), ih fun m hm => h m (List.mem_cons_of_mem _ hm)]
  have e : ((List.range xs.size).filterMap fun (m : Nat) => xs[(((xs.size : Nat) : Int) - 1 + (m : Int) * (-1)).toNat]?) = (List.range xs.size).map fun m => xs.getD (xs.size - 1 - m) .none := by
    rw [← List.filterMap_eq_map]
    refine cong _ _ _ fun m hm => ?_
    have h := List.mem_range.mp hm
    have z : (((xs.size : Nat) : Int) - 1 + (m : Int) * (-1)).toNat = xs.size - 1 - m := by omega
    rw [z, Array.getElem?_eq_getElem (by omega)]
    simp [Array.getD, show xs.size - 1 - m < xs.size by omega]
  rw [e, List.getElem?_map]
  by_cases h : i < xs.size
  · rw [List.getElem?_range h, List.getElem?_reverse (by simpa using h)]
    simp [Array.getD, show xs.size - 1 - i < xs.size by omega]
  · rw [List.getElem?_eq_none (by simpa using h), List.getElem?_eq_none (by simpa using h)]
    rfl
theorem applied_rev {sl : Addr} {vk : Value} {n : Nat} {Q : Int × Int × Nat → Shared → Prop} (hs : s.heap.IsSliceOf sl .none .none vk) (pk : IsPart vk (some (-1)))
    (h : Q ((n : Int) - 1, -1, n) s) : wpAny (model prog wo) A (Builtin.Slice.sliceApplied (.ref sl) (pure (n : Int))) Q E s := by
  obtain ⟨os, hos, hcs, hds⟩ := id hs
  unfold Builtin.Slice.sliceApplied Builtin.Slice.sliceFields
  refine wpAny_bind (wpAny_bind (wpAny_field hos hds (x := Value.none) rfl (wpAny_bind (wpAny_field hos hds (x := Value.none) rfl (wpAny_bind (wpAny_field hos hds (x := vk) rfl (wpAny_pure ?_)))))))
  refine wpAny_bind (HT.slicePart_ pk ?_)
  show wpAny _ _ (if ((-1 : Int) == 0) = true then _ else _) _ _ s
  rw [if_neg (by decide)]
  refine wpAny_bind (HT.slicePart_ .none (wpAny_bind (HT.slicePart_ .none (wpAny_bind (wpAny_pure ?_)))))
  show wpAny _ _ (match Builtin.Slice.sliceAdjust none none (-1) (n : Int) with | (a, b) => pure (a, (-1 : Int), Builtin.Slice.slicePlaces a b (-1))) _ _ s
  rw [adj_rev]
  show wpAny _ _ (pure ((n : Int) - 1, (-1 : Int), Builtin.Slice.slicePlaces ((n : Int) - 1) (-1) (-1))) _ _ s
  rw [places_rev]
  exact wpAny_pure h
theorem item_rev {t sl : Addr} {items : Array Value} {vk : Value} {Q : Value → Shared → Prop} (ht : IsTup s.heap t items) (hs : s.heap.IsSliceOf sl .none .none vk) (pk : IsPart vk (some (-1)))
    (h : Q (.ref s.heap.objs.size) { s with heap := s.heap.push { cls := .type "tuple", data := .seq items.toList.reverse.toArray } })
    (hsz : items.size ≤ sizeLine) : wpAny (model prog wo) A (getItem (.ref t) (.ref sl)) Q E s := by
  have hz : sizeOk (.seq items.toList.reverse.toArray) := by
    show items.toList.reverse.toArray.size ≤ sizeLine
    rw [List.size_toArray, List.length_reverse, Array.length_toList]
    exact hsz
  obtain ⟨os, hos, hcs, hds⟩ := id hs
  have hTs : s.TypeIs (.ref sl) "slice" := ⟨os, hos, hcs⟩
  unfold getItem
  try with_reducible refine wpAny_holding ?_
  first | refine wpAny_bind (wpAny_pure ?_) | skip
  refine wpAny_bind (wpAny_sequenceKey ht.typeIs (by decide) ?_)
  refine wpAny_bind (wpAny_callSpecial?_slot (name := Str.ofString "__getitem__") ht.typeIs PyProof.Rows.slot_tuple_getitem (wpAny_call_entry PyProof.Rows.slot_tuple_getitem ht.typeIs entry_tuple_getitem ?_ (args_tuple_getitem _ _)))
  show wpAny _ _ (Builtin.Tuple.tupleItemsOf (.ref t) >>= _) _ _ s
  refine wpAny_bind (tupleItemsOf_ ht ?_)
  refine wpAny_bind (wpAny_typeOf hTs ?_)
  rw [if_pos (by decide)]
  refine wpAny_bind (applied_rev hs pk ?_)
  have hno : ¬ ((((items.size : Int) - 1) == 0 && (-1 : Int) == 1 && items.size == items.size) = true) := by
    rw [show ((-1 : Int) == 1) = false from rfl, Bool.and_false, Bool.false_and]
    exact Bool.false_ne_true
  show wpAny _ _ (if (((items.size : Int) - 1) == 0 && (-1 : Int) == 1 && items.size == items.size) = true then _ else _) _ _ s
  rw [if_neg hno, pick_rev]
  first
    | exact wpAny_bind (m := Builtin.Tuple.tupleExact _) (wpAny_newObj_type (wpAny_pure ⟨_, rfl, wpAny_pure h⟩) hz)
    | exact wpAny_bind (m := Builtin.Tuple.tupleExact _) (wpAny_newObj_type (wpAny_bind (wpAny_pure (wpAny_pure ⟨_, rfl, wpAny_pure h⟩))) hz)
    | exact wpAny_bind (wpAny_bind (m := Builtin.Tuple.tupleExact _) (wpAny_newObj_type (wpAny_pure (wpAny_pure ⟨_, rfl, wpAny_pure h⟩)) hz))
    | exact wpAny_bind (wpAny_bind (m := Builtin.Tuple.tupleExact _) (wpAny_newObj_type (wpAny_pure ⟨_, rfl, wpAny_pure h⟩) hz))
end
section
variable {X : Cx} {G : Gx} {e : Expr} {w : WE}
theorem pe_revT {te : TE} {k : Nat} {p1 p2 p3 pos : Pos} (he : PE X e te) : PE X (.Subscript e (.Slice none none (some (.UnaryOp .USub (.Constant (.int 1) k p1) p2)) p3) pos)
    (fun σ H Q => te σ H fun x H1 => ∃ a xs, x = .ref a ∧ SqT X.K H1 a xs ∧ ∀ p, H1 p = none → Q (.ref p) (upd H1 p (.tup xs.reverse))) := by
  refine ⟨fun pins s σ H Q I h => ?_⟩
  refine Subscript_ (thn (he.run pins s σ H _ I h) fun v s1 ⟨x, H1, I1, r1, a, xs, ex, hx, q⟩ => ?_)
  subst ex
  cases r1
  have hst : PO X (some (.UnaryOp .USub (.Constant (.int 1) k p1) p2)) (tPart (tUn (rU fun i => .int (-i)) (tC (.int 1)))) := po_some (pe_un un_neg pe_int)
  refine wpAny_Slice (thn (po_none.run pins s1 σ H1 (fun o H2 => o = none ∧ H2 = H1) I1 ⟨rfl, rfl⟩) fun vl s2 ⟨l, H2, I2, pl, el, e2⟩ => ?_)
  subst el e2
  refine thn (po_none.run pins s2 σ H2 (fun o H3 => o = none ∧ H3 = H2) I2 ⟨rfl, rfl⟩) fun vu s3 ⟨u, H3, I3, pu, eu, e3⟩ => ?_
  subst eu e3
  refine thn (hst.run pins s3 σ H3 (fun o H4 => o = some (-1) ∧ H4 = H3) I3 ⟨1, rfl, -1, rfl, rfl, rfl⟩) fun vs s4 ⟨o, H4, I4, ps, eo, e4⟩ => ?_
  subst eo e4
  cases pl
  cases pu
  have I5 : Inv X pins σ H4 { s4 with heap := s4.heap.push { cls := .type "slice", data := .fields #[.none, .none, vs] } } := I4.kept (t' := s4.toks) fun b ob q => Heap.get?_push_of_some _ q
  obtain ⟨its, r, ht, hz⟩ := I5.tuple hx
  have hlen := r.length
  show wpAny (model X.prog X.w) X.A (subscriptTail e (.Slice none none (some (.UnaryOp .USub (.Constant (.int 1) k p1) p2)) p3) (.ref a) (.ref s4.heap.objs.size)) (EP X pins σ Q) X.xe { s4 with heap := s4.heap.push { cls := .type "slice", data := .fields #[.none, .none, vs] } }
  refine tail_any (ops := [.ref a, .ref s4.heap.objs.size]) ht.typeIs (PyProof.Rows.slot_tuple_getitem.lookup) ?_ (by with_unfolding_all rfl)
  refine item_rev ht (Heap.IsSliceOf.new _ .none .none vs) ps ?_ (by rw [List.size_toArray]; omega)
  refine ⟨.ref _, _, I5.laid (t' := s4.toks) (o := .tup xs.reverse) (fun b ob q => Heap.get?_push_of_some _ q) (Nat.le_refl _) ?_, rfl, q _ (I5.hok.fresh (Nat.le_refl _))⟩
  exact ⟨by rw [List.length_reverse]; exact hz, _, r.reverse, ⟨_, Heap.get?_push_size _ rfl, rfl, 0, rfl⟩⟩
/-- xs[::-1] of a list, of a tuple that are values -/
def wRevL (w : WE) : WE := fun env Q => w env fun r e => ∃ ds, r = .f (.lst ds) ∧ Q (.f (.lst ds.reverse)) e
def wRevT (w : WE) : WE := fun env Q => w env fun r e => ∃ ds, r = .f (.tup ds) ∧ Q (.f (.tup ds.reverse)) e
theorem ge_revL {k : Nat} {p1 p2 p3 pos : Pos} (he : GE X G e w) (hK : X.K = G.K := by rfl) : GE X G (.Subscript e (.Slice none none (some (.UnaryOp .USub (.Constant (.int 1) k p1) p2)) p3) pos) (wRevL w) := by
  refine ⟨pe_imp (pe_revL he.pe) fun σ H Q ⟨T, env, F, r, q⟩ => ⟨T, env, F, r, he.mono _ _ _ (fun s e ⟨ds, hs, q⟩ x T1 H1 F1 f1 a1 z1 => ?_) q⟩, fun env Q Q' i q => he.mono _ _ _ (fun s e ⟨ds, hs, q⟩ => ⟨ds, hs, i _ _ q⟩) q⟩
  subst hs
  obtain ⟨a, vs, rfl, l, f⟩ := Cz.of z1.rel.1
  exact ⟨a, vs, rfl, by rw [hK]; exact l, fun p np => q _ T1 _ F1 [] (a1.trans r.trk (Att.ex a1.re (Ex.new np))) (res_f (fz_new_l a1.re.trk np f.reverse))⟩
theorem ge_revT {k : Nat} {p1 p2 p3 pos : Pos} (he : GE X G e w) (hK : X.K = G.K := by rfl) : GE X G (.Subscript e (.Slice none none (some (.UnaryOp .USub (.Constant (.int 1) k p1) p2)) p3) pos) (wRevT w) := by
  refine ⟨pe_imp (pe_revT he.pe) fun σ H Q ⟨T, env, F, r, q⟩ => ⟨T, env, F, r, he.mono _ _ _ (fun s e ⟨ds, hs, q⟩ x T1 H1 F1 f1 a1 z1 => ?_) q⟩, fun env Q Q' i q => he.mono _ _ _ (fun s e ⟨ds, hs, q⟩ => ⟨ds, hs, i _ _ q⟩) q⟩
  subst hs
  have zr : Fz G.K (hid T1 H1) x (.tup ds) := z1.rel.1
  cases zr with
  | tup l f => exact ⟨_, _, rfl, by rw [hK]; exact ex_t hid_ex l, fun p np => q _ T1 _ F1 [] (a1.trans r.trk (Att.ex a1.re (Ex.new np))) (res_f (fz_new_t a1.re.trk np f.reverse))⟩
end
end Fx

namespace Fx
open PySem PySem.Spec PyProof.Rows L2 Evl Lk

/-! ### values as arguments -/
abbrev WAD := Env → (List D → Env → Prop) → Prop
def MonoAD (w : WAD) : Prop := ∀ env (Q Q' : List D → Env → Prop), (∀ r e, Q r e → Q' r e) → w env Q → w env Q'
def adNil : WAD := fun env Q => Q [] env
def adCons (w : WE) (wr : WAD) : WAD := fun env Q => w env fun r e => ∃ d, r = .f d ∧ wr e fun ds e2 => Q (d :: ds) e2
def agD (d : D) : Ag := .v (.f d)
def waD (wd : WAD) : WA := fun env Q => wd env fun ds e => Q (ds.map agD) e
theorem argsD_map : ∀ ds : List D, argsD (ds.map agD) = some ds
  | [] => rfl
  | d :: ds => by
    show (argsD (ds.map agD)).map (d :: ·) = _
    rw [argsD_map ds] <;> rfl
theorem resA_map (e : Env) : ∀ ds : List D, resA (ds.map agD) e = some (ds.map Sl.f)
  | [] => rfl
  | d :: ds => by
    show (resA (ds.map agD) e).map (Sl.f d :: ·) = _
    rw [resA_map e ds] <;> rfl
theorem agOk_map : ∀ ds : List D, agOk (ds.map agD) = true
  | [] => rfl
  | d :: ds => agOk_map ds
theorem idx_map (i : Nat) : ∀ ds : List D, idxOwn (ds.map agD) i = none
  | [] => rfl
  | d :: ds => by
    show (idxOwn (ds.map agD) i).map (· + 1) = none
    rw [idx_map i ds] <;> rfl
theorem wbGo_map (ds : List D) (as' : List Sl) : ∀ (i : Nat) (e : Env), wbGo (ds.map agD) as' i e = e
  | _, [] => rfl
  | i, s :: e => by
    rw [wbGo, idx_map, wbGo_map ds as' (i + 1) e]
theorem cdL_map : ∀ ds : List D, cdL (ds.map Sl.f) = some ds
  | [] => rfl
  | d :: ds => by
    rw [List.map_cons, cdL, cdL_map ds] <;> rfl
theorem any_map (i : Nat) : ∀ ds : List D, (ds.map agD).any (slotIs i) = false
  | [] => rfl
  | d :: ds => any_map i ds
structure GD (X : Cx) (G : Gx) (es : List Expr) (wd : WAD) : Prop where
  ga : GA X G es (waD wd)
  mono : MonoAD wd
structure GKD (X : Cx) (G : Gx) (ks : List Keyword) (wd : WAD) : Prop where
  gk : GK X G ks (waD wd)
  mono : MonoAD wd
section
variable {X : Cx} {G : Gx} {e : Expr} {es : List Expr} {w w' : WE} {wa wa' : WA} {wd wr : WAD}
theorem ge_imp (h : GE X G e w) (i : ∀ env Q, w' env Q → w env Q) (m : MonoE w') : GE X G e w' := ⟨pe_imp h.pe fun σ H Q ⟨T, env, F, r, q⟩ => ⟨T, env, F, r, i _ _ q⟩, m⟩
theorem ga_imp (h : GA X G es wa) (i : ∀ env Q, wa' env Q → wa env Q) (m : MonoA wa') : GA X G es wa' := ⟨pa_imp h.pa fun σ H Q ⟨T, env, F, r, q⟩ => ⟨T, env, F, r, i _ _ q⟩, m⟩
theorem gk_imp {ks : List Keyword} (h : GK X G ks wa) (i : ∀ env Q, wa' env Q → wa env Q) (m : MonoA wa') : GK X G ks wa' := ⟨pk_imp h.pk fun σ H Q ⟨T, env, F, r, q⟩ => ⟨T, env, F, r, i _ _ q⟩, m⟩
theorem mono_waD (m : MonoAD wd) : MonoA (waD wd) := fun env Q Q' i q => m _ _ _ (fun ds e q => i _ _ q) q
theorem mono_adNil : MonoAD adNil := fun env Q Q' i q => i _ _ q
theorem mono_adCons (m : MonoE w) (n : MonoAD wr) : MonoAD (adCons w wr) := fun env Q Q' i q => m _ _ _ (fun r e ⟨d, hd, q⟩ => ⟨d, hd, n _ _ _ (fun ds e q => i _ _ q) q⟩) q
theorem ad_cons (m : MonoE w) {env : Env} {Q : List Ag → Env → Prop} (q : waD (adCons w wr) env Q) : waCons w (waD wr) env Q := m _ _ _ (fun r e ⟨d, hd, q⟩ => by
  subst hd
  exact ⟨nofun, q⟩) q
theorem gd_nil : GD X G [] adNil := ⟨ga_imp ga_nil (fun _ _ q => q) (mono_waD mono_adNil), mono_adNil⟩
theorem gd_cons (ha : GE X G e w) (hr : GD X G es wr) (hs : starEach (e :: es) X.env = (false, eval e X.env) :: starEach es X.env := by rfl) : GD X G (e :: es) (adCons w wr) :=
  ⟨ga_imp (ga_cons ha hr.ga hs) (fun _ _ q => ad_cons ha.mono q) (mono_waD (mono_adCons ha.mono hr.mono)), mono_adCons ha.mono hr.mono⟩
theorem gkd_nil : GKD X G [] adNil := ⟨gk_imp gk_nil (fun _ _ q => q) (mono_waD mono_adNil), mono_adNil⟩
theorem gkd_cons {ks : List Keyword} {nm : Option Str} {kpos : Pos} (ha : GE X G e w) (hr : GKD X G ks wr) : GKD X G (⟨nm, e, kpos⟩ :: ks) (adCons w wr) :=
  ⟨gk_imp (gk_cons ha hr.gk) (fun _ _ q => ad_cons ha.mono q) (mono_waD (mono_adCons ha.mono hr.mono)), mono_adCons ha.mono hr.mono⟩
/-! displays -/
def wTupD (wd : WAD) : WE := fun env Q => wd env fun ds e => ds.length ≤ sizeLine ∧ Q (.f (.tup ds)) e
def wLstD (wd : WAD) : WE := fun env Q => wd env fun ds e => ds.length ≤ sizeLine ∧ Q (.f (.lst ds)) e
def wLstOD (wd : WAD) : WE := fun env Q => wd env fun ds e => ds.length ≤ sizeLine ∧ Q (.own (.lst ds)) e
theorem ge_tupD {k : Nat} {pos : Pos} (h : GD X G es wd) : GE X G (.Tuple es k pos) (wTupD wd) :=
  ge_imp (ge_tup h.ga) (fun env Q q => h.mono _ _ _ (fun ds e ⟨z, q⟩ => ⟨ds, argsD_map ds, z, q⟩) q) fun env Q Q' i q => h.mono _ _ _ (fun ds e ⟨z, q⟩ => ⟨z, i _ _ q⟩) q
theorem ge_lstD {pos : Pos} (h : GD X G es wd) : GE X G (.List es pos) (wLstD wd) :=
  ge_imp (ge_lst h.ga) (fun env Q q => h.mono _ _ _ (fun ds e ⟨z, q⟩ => ⟨ds, argsD_map ds, z, q⟩) q) fun env Q Q' i q => h.mono _ _ _ (fun ds e ⟨z, q⟩ => ⟨z, i _ _ q⟩) q
theorem ge_lstOD {pos : Pos} (h : GD X G es wd) : GE X G (.List es pos) (wLstOD wd) :=
  ge_imp (ge_lstO h.ga) (fun env Q q => h.mono _ _ _ (fun ds e ⟨z, q⟩ => ⟨ds, argsD_map ds, z, q⟩) q) fun env Q Q' i q => h.mono _ _ _ (fun ds e ⟨z, q⟩ => ⟨z, i _ _ q⟩) q
/-! built-ins -/
def wCBD (o : OpC) (wd : WAD) : WE := fun env Q => wd env fun ds e => o ds fun d => Q (.f d) e
theorem mono_cbd {o : OpC} (m : MonoAD wd) (mo : MonoC o) : MonoE (wCBD o wd) := fun env Q Q' i q => m _ _ _ (fun ds e q => mo _ _ _ (fun d q => i _ _ q) q) q
theorem cbd_cb {o : OpC} (m : MonoAD wd) {env : Env} {Q : Sl → Env → Prop} (q : wCBD o wd env Q) : wCB o (waD wd) env Q := m _ _ _ (fun ds e q => ⟨_, ds, resA_map e ds, cdL_map ds, q⟩) q
theorem ge_cbB {o : OpC} {id : String} {x : Str} {p pos : Pos} (c : CaX X G (.builtin id) o) (hg : Gl X x) (hm : X.mg x = none) (hv : bootBuiltins x = some (.builtin id)) (ha : GD X G (e :: es) wd) (hn : x ≠ "__name__" := by decide) (hdb : (x == ("__debug__" : Str)) = false := by decide)
    (he : starEach (e :: es) X.env = (false, eval e X.env) :: starEach es X.env := by rfl) (hpl : (backTo pos (starEach es X.env)).any (·.1) = false := by rfl) : GE X G (.Call (.Name x p) (e :: es) [] pos) (wCBD o wd) :=
  ge_imp (ge_cb (pe_callB c.ok hg hm hv ha.ga.pa hn hdb he hpl) ha.ga.mono c.mono) (fun _ _ q => cbd_cb ha.mono q) (mono_cbd ha.mono c.mono)
theorem ge_cbT {o : OpC} {id : String} {x : Str} {p pos : Pos} (c : CaX X G (.type id) o) (hg : Gl X x) (hm : X.mg x = none) (hv : bootBuiltins x = some (.type id)) (ha : GD X G (e :: es) wd) (hn : x ≠ "__name__" := by decide) (hdb : (x == ("__debug__" : Str)) = false := by decide)
    (he : starEach (e :: es) X.env = (false, eval e X.env) :: starEach es X.env := by rfl) (hpl : (backTo pos (starEach es X.env)).any (·.1) = false := by rfl) : GE X G (.Call (.Name x p) (e :: es) [] pos) (wCBD o wd) :=
  ge_imp (ge_cb (pe_callTy c.ok hg hm hv ha.ga.pa hn hdb he hpl) ha.ga.mono c.mono) (fun _ _ q => cbd_cb ha.mono q) (mono_cbd ha.mono c.mono)
/-- f(x), x a name whatever it holds -/
def wCB1 (o : OpC) (i : Nat) : WE := fun env Q => ∃ s d, env[i]? = some (some s) ∧ s.cd = some d ∧ o [d] fun d => Q (.f d) env
theorem mono_cb1 {o : OpC} {i : Nat} (mo : MonoC o) : MonoE (wCB1 o i) := fun env Q Q' j ⟨s, d, h1, h2, q⟩ => ⟨s, d, h1, h2, mo _ _ _ (fun d q => j _ _ q) q⟩
theorem cb1_cb {o : OpC} {i : Nat} {env : Env} {Q : Sl → Env → Prop} (q : wCB1 o i env Q) : wCB o (waSlot i false waNil) env Q := by
  obtain ⟨s, d, h1, h2, q⟩ := q
  refine ⟨⟨s, h1⟩, ?_⟩
  cases s with
  | f d' => exact ⟨[.f d'], [d], by simp only [resA, h1]; rfl, by simp only [cdL, h2], q⟩
  | own o' => exact ⟨[.vw o'], [d], by simp only [resA, h1]; rfl, by simp only [cdL]; rw [show (Sl.vw o').cd = some d from h2], q⟩
  | vw o' => exact ⟨[.vw o'], [d], by simp only [resA, h1]; rfl, by simp only [cdL, h2], q⟩
theorem ge_cbB1 {o : OpC} {id : String} {x : Str} {i : Nat} {p pos : Pos} (c : CaX X G (.builtin id) o) (hg : Gl X x) (hm : X.mg x = none) (hv : bootBuiltins x = some (.builtin id)) (ha : PE X e (tVar i)) (hn : x ≠ "__name__" := by decide) (hdb : (x == ("__debug__" : Str)) = false := by decide)
    (he : starEach [e] X.env = (false, eval e X.env) :: starEach [] X.env := by rfl) (hpl : (backTo pos (starEach [] X.env)).any (·.1) = false := by rfl) : GE X G (.Call (.Name x p) [e] [] pos) (wCB1 o i) :=
  ge_imp (ge_cb (pe_callB c.ok hg hm hv (ga_slot ha ga_nil he).pa hn hdb he hpl) (ga_slot (G := G) ha ga_nil he).mono c.mono) (fun _ _ q => cb1_cb q) (mono_cb1 c.mono)
theorem ge_cbT1 {o : OpC} {id : String} {x : Str} {i : Nat} {p pos : Pos} (c : CaX X G (.type id) o) (hg : Gl X x) (hm : X.mg x = none) (hv : bootBuiltins x = some (.type id)) (ha : PE X e (tVar i)) (hn : x ≠ "__name__" := by decide) (hdb : (x == ("__debug__" : Str)) = false := by decide)
    (he : starEach [e] X.env = (false, eval e X.env) :: starEach [] X.env := by rfl) (hpl : (backTo pos (starEach [] X.env)).any (·.1) = false := by rfl) : GE X G (.Call (.Name x p) [e] [] pos) (wCB1 o i) :=
  ge_imp (ge_cb (pe_callTy c.ok hg hm hv (ga_slot ha ga_nil he).pa hn hdb he hpl) (ga_slot (G := G) ha ga_nil he).mono c.mono) (fun _ _ q => cb1_cb q) (mono_cb1 c.mono)
/-- a method of a list value -/
def wFMD (m : FM) (w : WE) (wd : WAD) : WE := fun env Q => w env fun r e => ∃ ds, r = .f (.lst ds) ∧ wd e fun as e2 => m as ds fun d => Q (.f d) e2
theorem ge_fmD {m : FM} {e : Expr} (h : PE X e (tBM X.K "list" (rFM G m) (tW G w) (tWA G (waD wd)))) (hm : MonoFM m) (hw : MonoE w) (ha : MonoAD wd) (hK : X.K = G.K := by rfl) : GE X G e (wFMD m w wd) :=
  ge_imp (ge_fm h hm hw (mono_waD ha) hK) (fun env Q q => hw _ _ _ (fun r e ⟨ds, hs, q⟩ => ⟨ds, hs, ha _ _ _ (fun as e2 q => ⟨_, as, resA_map e2 as, cdL_map as, q⟩) q⟩) q)
    fun env Q Q' i q => hw _ _ _ (fun r e ⟨ds, hs, q⟩ => ⟨ds, hs, ha _ _ _ (fun as e2 q => hm _ _ _ _ (fun d q => i _ _ q) q) q⟩) q
theorem ge_index {o : Expr} {apos pos : Pos} (hu : X.A.units + 65 < cLine) (ho : GE X G o w) (ha : GD X G [e] wd) (hK : X.K = G.K := by rfl) (hbase : attributeBase o "index" X.env (eval o X.env) = eval o X.env := by rfl)
    (hfew : ((backTo pos (starEach [e] X.env)).all (fun x => !x.1) && (backToKw pos (keywordEach [] X.env)).all (fun x => x.1.isSome) && decide (([e] : List Expr).length + ([] : List Keyword).length + (if ([] : List Keyword).isEmpty then 0 else 1) < 30)) = true := by rfl)
    (hline : (apos.endLine == pos.line) = true := by rfl) (hs : starEach [e] X.env = (false, eval e X.env) :: starEach [] X.env := by rfl) (hpl : (backTo pos (starEach [] X.env)).any (·.1) = false := by rfl) : GE X G (.Call (.Attribute o "index" apos) [e] [] pos) (wFMD fIndex w wd) :=
  ge_fmD (pe_bm PySem.F.plainAttrs_list PySem.F.slot_list_index PySem.F.type_list_index (mtx_index hu hK) ho.pe ha.ga.pa hbase hfew hline hs hpl) mono_index ho.mono ha.mono hK
/-! calls of defs -/
abbrev WFn := List D → (Sl → Prop) → Prop
abbrev WUn := O → List D → (Sl → O → Prop) → Prop
def liftF (W : WFn) : WD := fun as Q => ∃ ds, as = ds.map Sl.f ∧ W ds fun r => Q r (ds.map Sl.f)
def liftU (W : WUn) : WD := fun as Q => ∃ o ds, as = .own o :: ds.map Sl.f ∧ W o ds fun r o' => Q r (.own o' :: ds.map Sl.f)
def MonoF (W : WFn) : Prop := ∀ ds (Q Q' : Sl → Prop), (∀ d, Q d → Q' d) → W ds Q → W ds Q'
def MonoU2 (W : WUn) : Prop := ∀ o ds (Q Q' : Sl → O → Prop), (∀ r o, Q r o → Q' r o) → W o ds Q → W o ds Q'
theorem mono_liftF {W : WFn} (m : MonoF W) : MonoD (liftF W) := fun as Q Q' i ⟨ds, h, q⟩ => ⟨ds, h, m _ _ _ (fun d q => i _ _ q) q⟩
theorem mono_liftU {W : WUn} (m : MonoU2 W) : MonoD (liftU W) := fun as Q Q' i ⟨o, ds, h, q⟩ => ⟨o, ds, h, m _ _ _ _ (fun r o q => i _ _ q) q⟩
def wCallF (W : WFn) (wd : WAD) : WE := fun env Q => wd env fun ds e => W ds fun r => Q r e
def wCallU (i : Nat) (W : WUn) (wd : WAD) : WE := fun env Q => (∃ s, env[i]? = some (some s)) ∧ wd env fun ds e => ∃ o, e[i]? = some (some (.own o)) ∧ W o ds fun r o' => Q r (e.set i (some (.own o')))
theorem callF_call {W : WFn} (m : MonoF W) (n : MonoAD wd) {env : Env} {Q : Sl → Env → Prop} (q : wCallF W wd env Q) : wCall (liftF W) (waD wd) env Q :=
  n _ _ _ (fun ds e q => ⟨_, resA_map e ds, agOk_map ds, ds, rfl, m _ _ _ (fun d q => ⟨rfl, by rw [wbGo_map]; exact q⟩) q⟩) q
theorem mono_callF {W : WFn} (m : MonoF W) (n : MonoAD wd) : MonoE (wCallF W wd) := fun env Q Q' i q => n _ _ _ (fun ds e q => m _ _ _ (fun d q => i _ _ q) q) q
theorem mono_callU {i : Nat} {W : WUn} (m : MonoU2 W) (n : MonoAD wd) : MonoE (wCallU i W wd) := fun env Q Q' j ⟨h, q⟩ => ⟨h, n _ _ _ (fun ds e ⟨o, h, q⟩ => ⟨o, h, m _ _ _ _ (fun r o q => j _ _ q) q⟩) q⟩
theorem wb_own (ds : List D) (o' : Sl) (r : List Sl) (i : Nat) : ∀ (k : Nat) (e : Env), wbGo (.slot (k + i) true :: ds.map agD) (o' :: r) k e = e.set i (some o')
  | _, [] => by cases i <;> rfl
  | k, s :: e => by
    have idx : ∀ j, idxOwn (.slot (k + i) true :: ds.map agD) j = if k + i = j then some 0 else none := fun j => by
      show (if k + i = j then some 0 else (idxOwn (ds.map agD) j).map (· + 1)) = _
      rw [idx_map]
      rfl
    rw [wbGo, idx]
    cases i with
    | zero =>
      rw [if_pos (Nat.add_zero k)]
      show some o' :: wbGo _ _ (k + 1) e = some o' :: e
      congr 1
      have none_ : ∀ (m : Nat) (e : Env), k < m → wbGo (.slot (k + 0) true :: ds.map agD) (o' :: r) m e = e := by
        intro m e
        induction e generalizing m with
        | nil => intro _; rfl
        | cons s e ih =>
          intro hm
          rw [wbGo, idx, if_neg (by omega), ih (m + 1) (by omega)]
      exact none_ (k + 1) e (by omega)
    | succ i =>
      rw [if_neg (by omega)]
      show s :: wbGo _ _ (k + 1) e = s :: e.set i (some o')
      congr 1
      have := wb_own ds o' r i (k + 1) e
      rw [show k + 1 + i = k + (i + 1) by omega] at this
      exact this
theorem callU_call {i : Nat} {W : WUn} (m : MonoU2 W) (n : MonoAD wd) {env : Env} {Q : Sl → Env → Prop} (q : wCallU i W wd env Q) : wCall (liftU W) (waSlot i true (waD wd)) env Q := by
  obtain ⟨h, q⟩ := q
  refine ⟨h, n _ _ _ (fun ds e ⟨o, h, q⟩ => ?_) q⟩
  refine ⟨.own o :: ds.map Sl.f, by simp only [resA, h, resA_map]; rfl, ?_, o, ds, rfl, m _ _ _ _ (fun r o' q => ⟨rfl, ?_⟩) q⟩
  · show (!(ds.map agD).any (slotIs i) && agOk (ds.map agD)) = true
    rw [any_map, agOk_map]
    rfl
  · have := wb_own ds (.own o') (ds.map Sl.f) i 0 e
    rw [Nat.zero_add] at this
    rw [this]
    exact q
def wCallV (W : WUn) (w : WE) (wd : WAD) : WE := fun env Q => w env fun r e => ∃ o, r = .own o ∧ wd e fun ds e2 => W o ds fun r o' => Q r e2
theorem wbGo_v (s : Sl) (ds : List D) (as' : List Sl) : ∀ (i : Nat) (e : Env), wbGo (.v s :: ds.map agD) as' i e = e
  | _, [] => rfl
  | i, t :: e => by
    have idx : idxOwn (.v s :: ds.map agD) i = none := by
      show (idxOwn (ds.map agD) i).map (· + 1) = none
      rw [idx_map]
      rfl
    rw [wbGo, idx, wbGo_v s ds as' (i + 1) e]
theorem mono_callV {W : WUn} (mw : MonoE w) (m : MonoU2 W) (n : MonoAD wd) : MonoE (wCallV W w wd) := fun env Q Q' i q => mw _ _ _ (fun r e ⟨o, h, q⟩ => ⟨o, h, n _ _ _ (fun ds e2 q => m _ _ _ _ (fun r o' q => i _ _ q) q) q⟩) q
theorem callV_call {W : WUn} (mw : MonoE w) (m : MonoU2 W) (n : MonoAD wd) {env : Env} {Q : Sl → Env → Prop} (q : wCallV W w wd env Q) : wCall (liftU W) (waCons w (waD wd)) env Q :=
  mw _ _ _ (fun r e ⟨o, h, q⟩ => by
    subst h
    refine ⟨nofun, n _ _ _ (fun ds e2 q => ⟨.own o :: ds.map Sl.f, ?_, agOk_map ds, o, ds, rfl, m _ _ _ _ (fun r o' q => ⟨rfl, ?_⟩) q⟩) q⟩
    · show (resA (ds.map agD) e2).map (Sl.own o :: ·) = _
      rw [resA_map] <;> rfl
    · show Q r (wbGo (.v (.own o) :: ds.map agD) _ 0 e2)
      rw [wbGo_v]
      exact q) q
variable {x : Str} {k j : Nat} {tabs : List Addr} {p pos : Pos}
theorem ge_callF {W : WFn} (c : Cal X.prog X.w X.K X.mg X.base k x (spW X.K tabs (liftF W))) (hr : Room j X.A) (hk : k ≤ j) (hg : Gl X x) (hK : X.K = G.K) (ht : tabs = G.tabs) (mW : MonoF W) (ha : GD X G (e :: es) wd)
    (hdb : (x == ("__debug__" : Str)) = false := by decide) (he : starEach (e :: es) X.env = (false, eval e X.env) :: starEach es X.env := by rfl) (hpl : (backTo pos (starEach es X.env)).any (·.1) = false := by rfl) :
    GE X G (.Call (.Name x p) (e :: es) [] pos) (wCallF W wd) :=
  ge_imp (ge_call c hr hk hg hK ht (mono_liftF mW) ha.ga hdb he hpl) (fun _ _ q => callF_call mW ha.mono q) (mono_callF mW ha.mono)
theorem ge_callU {i : Nat} {W : WUn} (c : Cal X.prog X.w X.K X.mg X.base k x (spW X.K tabs (liftU W))) (hr : Room j X.A) (hk : k ≤ j) (hg : Gl X x) (hK : X.K = G.K) (ht : tabs = G.tabs) (mW : MonoU2 W) (hv : PE X e (tVar i)) (ha : GD X G es wd)
    (hdb : (x == ("__debug__" : Str)) = false := by decide) (he : starEach (e :: es) X.env = (false, eval e X.env) :: starEach es X.env := by rfl) (hpl : (backTo pos (starEach es X.env)).any (·.1) = false := by rfl) :
    GE X G (.Call (.Name x p) (e :: es) [] pos) (wCallU i W wd) :=
  ge_imp (ge_call c hr hk hg hK ht (mono_liftU mW) (ga_slot hv ha.ga he) hdb he hpl) (fun _ _ q => callU_call mW ha.mono q) (mono_callU mW ha.mono)
theorem ge_callV {W : WUn} (c : Cal X.prog X.w X.K X.mg X.base k x (spW X.K tabs (liftU W))) (hr : Room j X.A) (hk : k ≤ j) (hg : Gl X x) (hK : X.K = G.K) (ht : tabs = G.tabs) (mW : MonoU2 W) (hv : GE X G e w) (ha : GD X G es wd)
    (hdb : (x == ("__debug__" : Str)) = false := by decide) (he : starEach (e :: es) X.env = (false, eval e X.env) :: starEach es X.env := by rfl) (hpl : (backTo pos (starEach es X.env)).any (·.1) = false := by rfl) :
    GE X G (.Call (.Name x p) (e :: es) [] pos) (wCallV W w wd) :=
  ge_imp (ge_call c hr hk hg hK ht (mono_liftU mW) (ga_cons hv ha.ga he) hdb he hpl) (fun _ _ q => callV_call hv.mono mW ha.mono q) (mono_callV hv.mono mW ha.mono)
theorem ge_ckF {W : WFn} {kws : List Keyword} {ks : List Str} (c : CalK X.prog X.w X.K X.mg X.base k x (spW X.K tabs (liftF W)) ks) (hr : Room j X.A) (hk : k ≤ j) (hg : Gl X x) (hK : X.K = G.K) (ht : tabs = G.tabs) (mW : MonoF W)
    (hlen : ∀ ds Q, W ds Q → ds.length = ks.length) (ha : GKD X G kws wd)
    (hall : (backToKw pos (keywordEach kws X.env)).all (·.1.isSome) = true := by rfl) (hks : (backToKw pos (keywordEach kws X.env)).filterMap (·.1) = ks := by rfl) (hdb : (x == ("__debug__" : Str)) = false := by decide)
    (hpl : ((backTo pos (starEach [] X.env)).any (·.1) || (backToKw pos (keywordEach kws X.env)).any (·.1.isNone)) = false := by rfl) :
    GE X G (.Call (.Name x p) [] kws pos) (wCallF W wd) :=
  ge_imp (ge_ck c hr hk hg hK ht (mono_liftF mW) (fun as Q ⟨ds, h, q⟩ => by rw [h, List.length_map]; exact hlen _ _ q) ha.gk hall hks hdb hpl) (fun _ _ q => callF_call mW ha.mono q) (mono_callF mW ha.mono)
end

/-! ### defs -/
section
variable {P : Program} {w : World} {K : PySem.W.Frag} {mg : Str → Option Value} {base : Heap} {x : Str} {st : Stmt} {N ps : List Str} {k : Nat} {tabs : List Addr}
theorem outOk_f : ∀ (ds : List D) (env : Env), ds.length ≤ env.length → OutOk (List.replicate ds.length false) (ds.map Sl.f) env ∧ outA (List.replicate ds.length false) (ds.map Sl.f) env = ds.map Sl.f
  | [], _, _ => ⟨True.intro, by unfold outA; rfl⟩
  | d :: ds, [], h => absurd h (by simp)
  | d :: ds, e :: env, h => by
    obtain ⟨h1, h2⟩ := outOk_f ds env (by simpa using h)
    refine ⟨⟨?_, h1⟩, ?_⟩
    · rw [if_neg Bool.false_ne_true]
      exact nofun
    · show (if false = true then _ else Sl.f d) :: outA (List.replicate ds.length false) (ds.map Sl.f) env = Sl.f d :: ds.map Sl.f
      rw [h2] <;> rfl
theorem fx_fnF {W : WFn} {f : Addr} {fd : FuncData} (F : Fun K x x st f fd) (S : FnScope N ps (defScope st)) (hlen : ∀ ds Q, W ds Q → ds.length = ps.length)
    (hbody : ∀ (cdv : Value) (A : Around) (outer : List PySem.Env) (s : Shared) (H : Hp) (E : XK) (T : Addr → Prop) (P0 : Addr → Prop) (σ0 : L2.St), fd.code = cdv → Room k (A.deeper (envOfC x (defScope st) s.heap.objs.size f cdv)) →
      ∃ ws, GSs (cxOf CX0 P w K mg base N x (defScope st) f cdv A outer s H E).nox ⟨K, tabs, T, H, P0, σ0, fun i => (List.replicate ps.length false).getD i false, fun _ _ => False, fun _ => none⟩ (defBody st) ws ∧
        ∀ ds Q, W ds Q → ws ⟨fun env => ps.length ≤ env.length ∧ Q (.f .non), fun r env => ps.length ≤ env.length ∧ Q r, fun _ => False, fun _ => False⟩ (startE N (ds.map Sl.f))) : FnOk P w K mg base CX0 (k + 1) f fd ps (spW K tabs (liftF W)) := by
  refine fx_fn (List.replicate ps.length false) F S (fun as Q ⟨ds, h, q⟩ => by rw [h, List.length_map]; exact hlen _ _ q) fun cdv A outer s H E T P0 σ0 hcd hr => ?_
  obtain ⟨ws, h1, h2⟩ := hbody cdv A outer s H E T P0 σ0 hcd hr
  refine ⟨ws, h1, fun as Q ⟨ds, h, q⟩ => ?_⟩
  subst h
  have hl := hlen _ _ q
  refine h1.mono _ _ _ ?_ (h2 ds _ q)
  refine ⟨fun env ⟨l, q⟩ => ?_, fun r env ⟨l, q⟩ => ?_, fun _ h => h.elim, fun _ h => h.elim⟩
  · obtain ⟨a, b⟩ := outOk_f ds env (by rw [hl]; exact l)
    rw [hl] at a b
    exact ⟨a, by rw [b]; exact q⟩
  · obtain ⟨a, b⟩ := outOk_f ds env (by rw [hl]; exact l)
    rw [hl] at a b
    exact ⟨a, by rw [b]; exact q⟩
theorem fx_fnU {W : WUn} {f : Addr} {fd : FuncData} {p : Str} (F : Fun K x x st f fd) (S : FnScope N (p :: ps) (defScope st)) (hlen : ∀ o ds Q, W o ds Q → ds.length = ps.length)
    (hbody : ∀ (cdv : Value) (A : Around) (outer : List PySem.Env) (s : Shared) (H : Hp) (E : XK) (T : Addr → Prop) (P0 : Addr → Prop) (σ0 : L2.St), fd.code = cdv → Room k (A.deeper (envOfC x (defScope st) s.heap.objs.size f cdv)) →
      ∃ ws, GSs (cxOf CX0 P w K mg base N x (defScope st) f cdv A outer s H E).nox ⟨K, tabs, T, H, P0, σ0, fun i => (true :: List.replicate ps.length false).getD i false, fun _ _ => False, fun _ => none⟩ (defBody st) ws ∧
        ∀ o ds Q, W o ds Q → ws ⟨fun env => (p :: ps).length ≤ env.length ∧ ∃ o', env[0]? = some (some (.own o')) ∧ Q (.f .non) o', fun r env => (p :: ps).length ≤ env.length ∧ ∃ o', env[0]? = some (some (.own o')) ∧ Q r o', fun _ => False, fun _ => False⟩ (startE N (.own o :: ds.map Sl.f))) : FnOk P w K mg base CX0 (k + 1) f fd (p :: ps) (spW K tabs (liftU W)) := by
  refine fx_fn (true :: List.replicate ps.length false) F S (fun as Q ⟨o, ds, h, q⟩ => by rw [h, List.length_cons, List.length_map, hlen _ _ _ q]; rfl) fun cdv A outer s H E T P0 σ0 hcd hr => ?_
  obtain ⟨ws, h1, h2⟩ := hbody cdv A outer s H E T P0 σ0 hcd hr
  refine ⟨ws, h1, fun as Q ⟨o, ds, h, q⟩ => ?_⟩
  subst h
  have hl := hlen _ _ _ q
  have fin : ∀ (r : Sl) (env : Env), (p :: ps).length ≤ env.length → ∀ o', env[0]? = some (some (.own o')) → Q r (.own o' :: ds.map Sl.f) → OutOk (true :: List.replicate ps.length false) (.own o :: ds.map Sl.f) env ∧ Q r (outA (true :: List.replicate ps.length false) (.own o :: ds.map Sl.f) env) := by
    intro r env l o' he q
    cases env with
    | nil => exact absurd l (by simp)
    | cons e env =>
      obtain rfl : e = some (.own o') := by simpa using he
      obtain ⟨a, b⟩ := outOk_f ds env (by rw [hl]; simpa using l)
      rw [hl] at a b
      refine ⟨⟨by rw [if_pos rfl]; exact ⟨o', rfl⟩, a⟩, ?_⟩
      show Q r ((if true = true then Sl.own o' else _) :: outA (List.replicate ps.length false) (ds.map Sl.f) env)
      rw [b, if_pos rfl]
      exact q
  refine h1.mono _ _ _ ?_ (h2 o ds _ q)
  exact ⟨fun env ⟨l, o', he, q⟩ => fin _ env l o' he q, fun r env ⟨l, o', he, q⟩ => fin _ env l o' he q, fun _ h => h.elim, fun _ h => h.elim⟩
end
end Fx

namespace Fx
open PySem PySem.Spec PyProof.Rows L2 Evl Lk

/-! ### rules that take readings over trees alone -/
section
variable {X : Cx} {G : Gx} {e : Expr} {we : WE} {pos pos' : Pos} {x : Str} {i : Nat}
theorem gs_setE (hN : X.N.Nodup) (hi : X.N[i]? = some x) (hx : Loc X.env.scope x) (he : GE X G e we) (hp : G.prot i = false := by rfl) (hs : swapsWith e (some (.Name x pos')) pos.line X.env = pure false := by rfl)
    (hf : X.fn x = true ∨ X.env.scope.names.lookup x = some .local := by first | exact .inl rfl | exact .inr rfl) : GS X G (.Assign [.Name x pos'] e pos) (wSet i we) :=
  gs_set (ps_set hN hi hx he.pe hs hf) he.mono hp
theorem gp_k {d : D} (h : ∃ v u, X.mg x = some u ∧ RelV v u ∧ ∀ H, Fz G.K H v d) (hg : Gl X x) (hd : (x == ("__debug__" : Str)) = false := by decide) : GP X G (.Name x pos) (wC d) := by
  obtain ⟨v, u, h1, h2, h3⟩ := h
  exact gp_glob (pe_glob hg h1 h2 hd) h3
theorem gp_ty {n : String} (hg : Gl X x) (hm : X.mg x = none) (hv : bootBuiltins x = some (.type n)) (hn : x ≠ "__name__" := by decide) (hd : (x == ("__debug__" : Str)) = false := by decide) : GP X G (.Name x pos) (wC (.ty n)) :=
  gp_c (pe_bltn (v := .ty n) hg hm hv rfl hn hd) fun _ _ => .ty n
/-! negatives -/
def uNeg : Op1
  | .int i, Q => Q (.int (-i))
  | _, _ => False
theorem unx_neg : UnX X G (unaryOp .USub) uNeg := by
  refine ⟨fun pins s σ H x v Q I rx ⟨T, d, t, c, q⟩ => ?_, fun a Q Q' i q => ?_⟩
  · cases d with
    | int i =>
      cases c
      exact un_neg pins s σ H _ v Q I rx ⟨i, rfl, q _ H (Ex.refl H) (.int _)⟩
    | _ => exact (show False from q).elim
  · cases a <;> first | exact i _ q | exact q
/-! comprehensions -/
theorem blk_sh {p : Shared → Prop} {q : Prop} (s0 : Shared) (h : ∀ s, p s → q) (hp : ∀ s, p s) : q := h s0 (hp s0)
end
section
variable {X : Cx} {G : Gx} {elt tg iter c : Expr} {scope : Scope} {own : List (Str × Nat)} {pos spos py : Pos} {wi : WI} {t : Tgt} {w : WE} {wt : WT} {y : Str} {i : Nat}
abbrev GEB (X : Cx) (scope : Scope) (G : Gx) (elt : Expr) (w : WE) : Prop := ∀ (s : Shared) (H : Hp) (C : Addr) (cl : List (Str × Addr)) (fp : List Addr), GE (X.blk s H scope (compEnvC scope cl C X.env) fp) G elt w
abbrev GTB (X : Cx) (scope : Scope) (G : Gx) (elt : Expr) (w : WT) : Prop := ∀ (s : Shared) (H : Hp) (C : Addr) (cl : List (Str × Addr)) (fp : List Addr), GT (X.blk s H scope (compEnvC scope cl C X.env) fp) G elt w
abbrev PGB (X : Cx) (scope : Scope) (tg : Expr) (t : TG) : Prop := ∀ (s : Shared) (H : Hp) (C : Addr) (cl : List (Str × Addr)) (fp : List Addr), PG (X.blk s H scope (compEnvC scope cl C X.env) fp) tg t
theorem allB_mono {w : WE} (h : GEB X scope G elt w) : MonoE w := (h {} (fun _ => none) 0 [] []).mono
theorem allB_monoT {w : WT} (h : GTB X scope G elt w) : MonoT w := (h {} (fun _ => none) 0 [] []).mono
theorem ge_lcR (hc : X.calm = true) (hN : X.N.Nodup) (hi : GI X G tg iter wi) (ok : BlkOk X.N X.env.scope scope own) (hg : PGB X scope tg (t.tg G.K)) (he : GEB X scope G elt w)
    (hsub : ∀ j ∈ t.js, j ∈ own.map (·.2)) (hp : ∀ i ∈ own.map (·.2), G.prot i = false) (hL : ∀ i ∈ own.map (·.2), i < X.N.length) (hs : ∀ x, foldedSetIterable iter X.env x = pure x := by intro _; rfl) :
    GE X G (.ListComp elt [⟨tg, iter, [], 0⟩] scope pos) (wLc wi t (own.map (·.2)) wYes w) :=
  ge_lc (tt := tYes) (L2.pe_lc hc hN hi.pi ok hg (fun _ _ _ _ _ => pts_nil) (fun s H C cl fp => (he s H C cl fp).pe) hs) hi.mono (allB_mono he) (fun _ _ _ q => tt_yes q) mono_yes hsub hp hL
theorem ge_lcR1 (hc : X.calm = true) (hN : X.N.Nodup) (hi : GI X G tg iter wi) (ok : BlkOk X.N X.env.scope scope own) (hg : PGB X scope tg (t.tg G.K)) (ht : GTB X scope G c wt) (he : GEB X scope G elt w)
    (hsub : ∀ j ∈ t.js, j ∈ own.map (·.2)) (hp : ∀ i ∈ own.map (·.2), G.prot i = false) (hL : ∀ i ∈ own.map (·.2), i < X.N.length) (hs : ∀ x, foldedSetIterable iter X.env x = pure x := by intro _; rfl) :
    GE X G (.ListComp elt [⟨tg, iter, [c], 0⟩] scope pos) (wLc wi t (own.map (·.2)) wt w) :=
  ge_lc (L2.pe_lc hc hN hi.pi ok hg (fun s H C cl fp => pts_one (ht s H C cl fp).pt) (fun s H C cl fp => (he s H C cl fp).pe) hs) hi.mono (allB_mono he) (fun _ _ _ q => q) (allB_monoT ht) hsub hp hL
/-- name = [..], the name is not the comprehension's -/
theorem gs_lcR (hc : X.calm = true) (hN : X.N.Nodup) (hy : X.N[i]? = some y) (hyl : X.env.scope.names.lookup y = some .local) (hsw : swapsWith (.ListComp elt [⟨tg, iter, [], 0⟩] scope pos) (some (.Name y py)) spos.line X.env = pure true)
    (hi : GI X G tg iter wi) (ok : BlkOk X.N X.env.scope scope own) (hg : PGB X scope tg (t.tg G.K)) (he : GEB X scope G elt w)
    (hsub : ∀ j ∈ t.js, j ∈ own.map (·.2)) (hp : ∀ i ∈ own.map (·.2), G.prot i = false) (hL : ∀ i ∈ own.map (·.2), i < X.N.length) (hpi : G.prot i = false := by rfl) (hs : ∀ x, foldedSetIterable iter X.env x = pure x := by intro _; rfl) :
    GS X G (.Assign [.Name y py] (.ListComp elt [⟨tg, iter, [], 0⟩] scope pos) spos) (wSet i (wLc wi t (own.map (·.2)) wYes w)) :=
  gs_setLc (tt := tYes) (L2.ps_setLc hc hN hy hyl hsw hi.pi ok hg (fun _ _ _ _ _ => pts_nil) (fun s H C cl fp => (he s H C cl fp).pe) hs) hi.mono (allB_mono he) (fun _ _ _ q => tt_yes q) mono_yes hsub hp hL hpi
theorem gs_lcFR (hc : X.calm = true) (hN : X.N.Nodup) (hy : X.N[i]? = some y) (hyl : X.env.scope.names.lookup y = some .local) (hsw : swapsWith (.ListComp elt [⟨tg, iter, [], 0⟩] scope pos) (some (.Name y py)) spos.line X.env = pure true)
    (hi : GI X G tg iter wi) (ok : BlkOk X.N X.env.scope scope own) (hg : PGB X scope tg (t.tg G.K)) (he : GEB X scope G elt w)
    (hsub : ∀ j ∈ t.js, j ∈ own.map (·.2)) (hp : ∀ i ∈ own.map (·.2), G.prot i = false) (hL : ∀ i ∈ own.map (·.2), i < X.N.length) (hpi : G.prot i = false := by rfl) (hs : ∀ x, foldedSetIterable iter X.env x = pure x := by intro _; rfl) :
    GS X G (.Assign [.Name y py] (.ListComp elt [⟨tg, iter, [], 0⟩] scope pos) spos) (wSet i (wFrz (wLc wi t (own.map (·.2)) wYes w))) :=
  gs_setLcF (tt := tYes) (L2.ps_setLc hc hN hy hyl hsw hi.pi ok hg (fun _ _ _ _ _ => pts_nil) (fun s H C cl fp => (he s H C cl fp).pe) hs) hi.mono (allB_mono he) (fun _ _ _ q => tt_yes q) mono_yes hsub hp hL hpi
theorem gs_lcFR1 (hc : X.calm = true) (hN : X.N.Nodup) (hy : X.N[i]? = some y) (hyl : X.env.scope.names.lookup y = some .local) (hsw : swapsWith (.ListComp elt [⟨tg, iter, [c], 0⟩] scope pos) (some (.Name y py)) spos.line X.env = pure true)
    (hi : GI X G tg iter wi) (ok : BlkOk X.N X.env.scope scope own) (hg : PGB X scope tg (t.tg G.K)) (ht : GTB X scope G c wt) (he : GEB X scope G elt w)
    (hsub : ∀ j ∈ t.js, j ∈ own.map (·.2)) (hp : ∀ i ∈ own.map (·.2), G.prot i = false) (hL : ∀ i ∈ own.map (·.2), i < X.N.length) (hpi : G.prot i = false := by rfl) (hs : ∀ x, foldedSetIterable iter X.env x = pure x := by intro _; rfl) :
    GS X G (.Assign [.Name y py] (.ListComp elt [⟨tg, iter, [c], 0⟩] scope pos) spos) (wSet i (wFrz (wLc wi t (own.map (·.2)) wt w))) :=
  gs_setLcF (L2.ps_setLc hc hN hy hyl hsw hi.pi ok hg (fun s H C cl fp => pts_one (ht s H C cl fp).pt) (fun s H C cl fp => (he s H C cl fp).pe) hs) hi.mono (allB_mono he) (fun _ _ _ q => q) (allB_monoT ht) hsub hp hL hpi
end

/-! ### what is left to show, step by step -/
section
variable {env e : Env} {Q : Sl → Env → Prop} {QD : D → Prop} {QT : Bool → Env → Prop} {n b c : Env → Prop} {r : Sl → Env → Prop} {w w1 w2 w3 : WE} {v1 v2 : WP} {t u : WT} {s1 s2 : WS} {i : Nat} {o : Op2}
theorem x_seq (h : s1 ⟨fun e => s2 ⟨n, r, b, c⟩ e, r, b, c⟩ env) : wSeq s1 s2 ⟨n, r, b, c⟩ env := h
theorem x_next (h : n env) : wNext ⟨n, r, b, c⟩ env := h
theorem x_bk (h : b env) : (fun (D : WEnds) env => D.bk env) ⟨n, r, b, c⟩ env := h
theorem x_ct (h : c env) : (fun (D : WEnds) env => D.ct env) ⟨n, r, b, c⟩ env := h
theorem x_ret (h : w env fun s e => (∀ o, s ≠ .vw o) ∧ r s e) : wRet w ⟨n, r, b, c⟩ env := h
theorem x_retN (h : r (.f .non) env) : wRetN ⟨n, r, b, c⟩ env := h
theorem x_drop (h : w env fun _ e => n e) : wDrop w ⟨n, r, b, c⟩ env := h
theorem x_ifS (h : t env fun k e => if k = true then s1 ⟨n, r, b, c⟩ e else s2 ⟨n, r, b, c⟩ e) : wIfS t s1 s2 ⟨n, r, b, c⟩ env := h
theorem x_set (h : w env fun s e => (∀ o, s ≠ .vw o) ∧ i < e.length ∧ n (e.set i (some s))) : wSet i w ⟨n, r, b, c⟩ env := h
theorem x_asg {g : WG} (h : w env fun s e => ∃ d, s = .f d ∧ g d e n) : wAsg w g ⟨n, r, b, c⟩ env := h
theorem x_gn {d : D} {q : Env → Prop} (h : i < env.length) (h2 : q (env.set i (some (.f d)))) : gn i d env q := ⟨h, h2⟩
theorem x_gtp {k : Nat} {ug : WGs} {ds : List D} {q : Env → Prop} (h : ds.length = k) (h2 : ug ds env q) : gTp k ug (.tup ds) env q := ⟨ds, rfl, h, h2⟩
theorem x_gnil {q : Env → Prop} (h : q env) : gsNil [] env q := ⟨rfl, h⟩
theorem x_gcons {g : WG} {ug : WGs} {d : D} {ds : List D} {q : Env → Prop} (h : g d env fun e => ug ds e q) : gsCons g ug (d :: ds) env q := ⟨d, ds, rfl, h⟩
theorem x_fin {d : D} {p : Prop} (h : p) : (∀ o, Sl.f d ≠ .vw o) ∧ p := ⟨nofun, h⟩
theorem x_fino {d : O} {p : Prop} (h : p) : (∀ o, Sl.own d ≠ .vw o) ∧ p := ⟨nofun, h⟩
theorem x_and {p q : Prop} (h : p) (h2 : q) : p ∧ q := ⟨h, h2⟩
theorem x_varF {d : D} {q : Sl → Prop} (h : env[i]? = some (some (.f d))) (h2 : q (.f d)) : wVar i env q := by unfold wVar; rw [h]; exact h2
theorem x_varO {o : O} {q : Sl → Prop} (h : env[i]? = some (some (.own o))) (h2 : q (.vw o)) : wVar i env q := by unfold wVar; rw [h]; exact h2
theorem x_varV {o : O} {q : Sl → Prop} (h : env[i]? = some (some (.vw o))) (h2 : q (.vw o)) : wVar i env q := by unfold wVar; rw [h]; exact h2
theorem x_c {d : D} {q : Sl → Prop} (h : q (.f d)) : wC d env q := h
theorem x_bin (h : w1 env fun r1 e1 => ∃ d1, r1 = .f d1 ∧ w2 e1 fun r2 e2 => ∃ d2, r2.cd = some d2 ∧ o d1 d2 fun d => Q (.f d) e2) : wBin o w1 w2 env Q := h
theorem x_binP {q : Sl → Prop} (h : v1 env fun r1 => ∃ d1, r1.cd = some d1 ∧ v2 env fun r2 => ∃ d2, r2.cd = some d2 ∧ o d1 d2 fun d => q (.f d)) : wBinP o v1 v2 env q := h
theorem x_exf {d : D} {p : D → Prop} (h : p d) : ∃ d1, Sl.f d = .f d1 ∧ p d1 := ⟨d, rfl, h⟩
theorem x_excd {d : D} {p : D → Prop} (h : p d) : ∃ d1, (Sl.f d).cd = some d1 ∧ p d1 := ⟨d, rfl, h⟩
theorem x_excV {o : O} {d : D} {p : D → Prop} (h : o.cd = some d) (h2 : p d) : ∃ d1, (Sl.vw o).cd = some d1 ∧ p d1 := ⟨d, h, h2⟩
theorem x_excO {o : O} {d : D} {p : D → Prop} (h : o.cd = some d) (h2 : p d) : ∃ d1, (Sl.own o).cd = some d1 ∧ p d1 := ⟨d, h, h2⟩
theorem x_exb {k : Bool} {p : Bool → Prop} (h : p k) : ∃ b, Sl.f (.bl k) = .f (.bl b) ∧ p b := ⟨k, rfl, h⟩
theorem x_exdb {k : Bool} {p : Bool → Prop} (h : p k) : ∃ b, D.bl k = .bl b ∧ p b := ⟨k, rfl, h⟩
theorem x_tru (h : w env fun s e => ∃ d, s.cd = some d ∧ dTru d fun b => QT b e) : wTru w env QT := h
theorem x_tB (h : w env fun s e => ∃ b, s = .f (.bl b) ∧ QT b e) : wTB w env QT := h
theorem x_dtB {k : Bool} {q : Bool → Prop} (h : q k) : dTru (.bl k) q := h
theorem x_dtN {q : Bool → Prop} (h : q false) : dTru .non q := h
theorem x_tand (h : t env fun k e => if k = true then u e QT else QT false e) : wAnd t u env QT := h
theorem x_tor (h : t env fun k e => if k = true then QT true e else u e QT) : wOr t u env QT := h
theorem x_tnot (h : t env fun k e => QT (!k) e) : wNot t env QT := h
theorem x_and2 (h : w1 env fun s e => ∃ b, s = .f (.bl b) ∧ if b = true then w2 e Q else Q (.f (.bl false)) e) : wAndV w1 w2 env Q := h
theorem x_or2 (h : w1 env fun s e => ∃ b, s = .f (.bl b) ∧ if b = true then Q (.f (.bl true)) e else w2 e Q) : wOrV w1 w2 env Q := h
theorem x_not2 (h : w1 env fun s e => ∃ b, s = .f (.bl b) ∧ Q (.f (.bl (!b))) e) : wNotV w1 env Q := h
theorem x_if (h : t env fun k e => if k = true then w1 e Q else w2 e Q) : wIf t w1 w2 env Q := h
theorem x_chain {o1 o2 : Op2} (h : w1 env fun r1 e1 => ∃ d1, r1 = .f d1 ∧ w2 e1 fun r2 e2 => ∃ d2, r2 = .f d2 ∧ o1 d1 d2 fun d => ∃ k, d = .bl k ∧ if k = true then w3 e2 fun r3 e3 => ∃ d3, r3.cd = some d3 ∧ o2 d2 d3 fun d => Q (.f d) e3 else Q (.f (.bl false)) e2) : wChain o1 o2 w1 w2 w3 env Q := h
theorem x_itT {p q : Prop} {inst : Decidable (true = true)} (h : p) : @ite _ (true = true) inst p q := by rw [if_pos rfl]; exact h
theorem x_itF {p q : Prop} {inst : Decidable (false = true)} (h : q) : @ite _ (false = true) inst p q := by rw [if_neg Bool.false_ne_true]; exact h
theorem x_itTe {k : Bool} {p q : Prop} {inst : Decidable (k = true)} (e : k = true) (h : p) : @ite _ (k = true) inst p q := by rw [if_pos e]; exact h
theorem x_itFe {k : Bool} {p q : Prop} {inst : Decidable (k = true)} (e : k = false) (h : q) : @ite _ (k = true) inst p q := by rw [if_neg (by rw [e]; exact Bool.false_ne_true)]; exact h
theorem x_ite {k : Bool} {p q : Prop} {inst : Decidable (k = true)} (h1 : k = true → p) (h2 : k = false → q) : @ite _ (k = true) inst p q := by
  cases k with
  | true => rw [if_pos rfl]; exact h1 rfl
  | false => rw [if_neg Bool.false_ne_true]; exact h2 rfl
/-- a test of which more is known: the word's two ways -/
theorem x_iteD {a : Prop} [Decidable a] {p q : Prop} {inst : Decidable (decide a = true)} (h1 : a → p) (h2 : ¬ a → q) : @ite _ (decide a = true) inst p q := by
  by_cases h : a
  · rw [if_pos (decide_eq_true h)]; exact h1 h
  · rw [if_neg (by simpa using h)]; exact h2 h
theorem x_iteN {k : Bool} {p q : Prop} {inst : Decidable ((!k) = true)} (h : if k = true then q else p) : @ite _ ((!k) = true) inst p q := by
  cases k with
  | true => rw [if_neg (show ¬ (!true) = true from Bool.false_ne_true)]; exact (if_pos rfl).mp h
  | false => rw [if_pos (show (!false) = true from rfl)]; exact (if_neg Bool.false_ne_true).mp h
/-! operations -/
theorem x_sub {a b : Int} (h : QD (.int (a - b))) : dII (fun _ _ => True) (fun i j => i - j) (.int a) (.int b) QD := ⟨True.intro, h⟩
theorem x_mul {a b : Int} (hc : CMulW a b) (h : QD (.int (a * b))) : dII CMulW (fun i j => i * j) (.int a) (.int b) QD := ⟨hc, h⟩
theorem x_mod {a b : Int} (hc : 0 < b) (h : QD (.int (a % b))) : dII (fun _ j => 0 < j) (fun i j => i % j) (.int a) (.int b) QD := ⟨hc, h⟩
theorem x_div {a b : Int} (hc : CDivW a b) (h : QD (.int (a / b))) : dII CDivW (fun i j => i / j) (.int a) (.int b) QD := ⟨hc, h⟩
theorem x_pow {a b : Int} (hc : CPowW a b) (h : QD (.int (a ^ b.toNat))) : dII CPowW (fun i j => i ^ j.toNat) (.int a) (.int b) QD := ⟨hc, h⟩
theorem x_neg {a : Int} (h : QD (.int (-a))) : uNeg (.int a) QD := h
theorem x_un {o1 : Op1} (h : w env fun s e => ∃ d, s.cd = some d ∧ o1 d fun d' => Q (.f d') e) : wUn o1 w env Q := h
theorem x_addI {a b : Int} (h : QD (.int (a + b))) : dAdd (.int a) (.int b) QD := h
theorem x_addS {a b : Str} (hz : a.length + b.length ≤ sizeLine) (h : QD (.str (a ++ b))) : dAdd (.str a) (.str b) QD := ⟨hz, h⟩
theorem x_addL {a b : List D} (hz : a.length + b.length ≤ sizeLine) (h : QD (.lst (a ++ b))) : dAdd (.lst a) (.lst b) QD := ⟨hz, h⟩
theorem x_addT {a b : List D} (hz : a.length + b.length ≤ sizeLine) (h : QD (.tup (a ++ b))) : dAdd (.tup a) (.tup b) QD := ⟨hz, h⟩
theorem x_lt {a b : Int} {g : List Nat → List Nat → Bool} (h : QD (.bl (decide (a < b)))) : dCmp (fun i j => decide (i < j)) g (.int a) (.int b) QD := h
theorem x_le {a b : Int} {g : List Nat → List Nat → Bool} (h : QD (.bl (decide (a ≤ b)))) : dCmp (fun i j => decide (i ≤ j)) g (.int a) (.int b) QD := h
theorem x_gt {a b : Int} {g : List Nat → List Nat → Bool} (h : QD (.bl (decide (b < a)))) : dCmp (fun i j => decide (j < i)) g (.int a) (.int b) QD := h
theorem x_ge {a b : Int} {g : List Nat → List Nat → Bool} (h : QD (.bl (decide (b ≤ a)))) : dCmp (fun i j => decide (j ≤ i)) g (.int a) (.int b) QD := h
theorem x_ltS {a b : Str} {f : Int → Int → Bool} {g : List Nat → List Nat → Bool} (h : QD (.bl (g a.cps.toList b.cps.toList))) : dCmp f g (.str a) (.str b) QD := h
theorem x_eqI {a b : Int} (h : QD (.bl (decide (a = b)))) : dEq false (.int a) (.int b) QD := ⟨rfl, rfl, by rw [if_neg Bool.false_ne_true]; exact (show PyData.eqv (.int a) (.int b) = decide (a = b) by simp [PyData.eqv]; rfl) ▸ h⟩
theorem x_isT {neg : Bool} (h : QD (.bl (!neg))) : dIsN neg .non .non QD := ⟨rfl, h⟩
theorem x_isI {neg : Bool} {a : Int} (h : QD (.bl neg)) : dIsN neg (.int a) .non QD := ⟨rfl, h⟩
theorem x_ixL {ds : List D} {k : Int} {d : D} (ha : atI ds k = some d) (h : QD d) : dIx (.lst ds) (.int k) QD := ⟨d, ha, h⟩
theorem x_ixT {ds : List D} {k : Int} {d : D} (ha : atI ds k = some d) (h : QD d) : dIx (.tup ds) (.int k) QD := ⟨d, ha, h⟩
theorem atI_at {α : Type} {ds : List α} {k : Int} (h0 : 0 ≤ k) (h1 : k < ds.length) : ∃ d, atI ds k = some d ∧ ds[k.toNat]? = some d := by
  have hk : k.toNat < ds.length := by omega
  have h := L2.atI_nat (xs := ds) (List.getElem?_eq_getElem hk)
  rw [Int.toNat_of_nonneg h0] at h
  exact ⟨_, h, List.getElem?_eq_getElem hk⟩
theorem x_ixM {ds : List D} {k : Int} (h0 : 0 ≤ k) (h1 : k < ds.length) (h : ∀ d ∈ ds, QD d) : dIx (.lst ds) (.int k) QD := by
  obtain ⟨d, h2, h3⟩ := atI_at h0 h1
  exact ⟨d, h2, h d (List.mem_of_getElem? h3)⟩
theorem x_ixMT {ds : List D} {k : Int} (h0 : 0 ≤ k) (h1 : k < ds.length) (h : ∀ d ∈ ds, QD d) : dIx (.tup ds) (.int k) QD := by
  obtain ⟨d, h2, h3⟩ := atI_at h0 h1
  exact ⟨d, h2, h d (List.mem_of_getElem? h3)⟩
theorem x_ixS {z : Str} {k : Int} {c : Nat} (hz : z.length ≤ sizeLine) (h0 : atI z.cps.toList k = some c) (h : QD (.str ⟨#[c]⟩)) : dIx (.str z) (.int k) QD := ⟨hz, c, h0, h⟩
/-! arguments, displays, calls -/
variable {wd wr : WAD} {QA : List D → Env → Prop}
theorem x_adN (h : QA [] env) : adNil env QA := h
theorem x_adC (h : w env fun r e => ∃ d, r = .f d ∧ wr e fun ds e2 => QA (d :: ds) e2) : adCons w wr env QA := h
theorem x_tup (h : wd env fun ds e => ds.length ≤ sizeLine ∧ Q (.f (.tup ds)) e) : wTupD wd env Q := h
theorem x_lst (h : wd env fun ds e => ds.length ≤ sizeLine ∧ Q (.f (.lst ds)) e) : wLstD wd env Q := h
theorem x_lstO (h : wd env fun ds e => ds.length ≤ sizeLine ∧ Q (.own (.lst ds)) e) : wLstOD wd env Q := h
theorem x_cb {o : OpC} (h : wd env fun ds e => o ds fun d => Q (.f d) e) : wCBD o wd env Q := h
theorem x_cb1 {o : OpC} {s : Sl} {d : D} (h1 : env[i]? = some (some s)) (h2 : s.cd = some d) (h : o [d] fun d => Q (.f d) env) : wCB1 o i env Q := ⟨s, d, h1, h2, h⟩
theorem x_callV {W : WUn} (h : w env fun r e => ∃ o, r = .own o ∧ wd e fun ds e2 => W o ds fun r o' => Q r e2) : wCallV W w wd env Q := h
theorem x_exo {d : O} {p : O → Prop} (h : p d) : ∃ d1, Sl.own d = .own d1 ∧ p d1 := ⟨d, rfl, h⟩
theorem x_callF {W : WFn} (h : wd env fun ds e => W ds fun r => Q r e) : wCallF W wd env Q := h
theorem x_callU {W : WUn} {s : Sl} (h0 : env[i]? = some (some s)) (h : wd env fun ds e => ∃ o, e[i]? = some (some (.own o)) ∧ W o ds fun r o' => Q r (e.set i (some (.own o')))) : wCallU i W wd env Q := ⟨⟨s, h0⟩, h⟩
theorem x_exO {p : O → Prop} {o : O} (h : env[i]? = some (some (.own o))) (h2 : p o) : ∃ o, env[i]? = some (some (.own o)) ∧ p o := ⟨o, h, h2⟩
theorem x_fm {m : FM} (h : w env fun r e => ∃ ds, r = .f (.lst ds) ∧ wd e fun as e2 => m as ds fun d => Q (.f d) e2) : wFMD m w wd env Q := h
theorem x_exl {ds : List D} {p : List D → Prop} (h : p ds) : ∃ d1, Sl.f (.lst ds) = .f (.lst d1) ∧ p d1 := ⟨ds, rfl, h⟩
theorem x_ext {ds : List D} {p : List D → Prop} (h : p ds) : ∃ d1, Sl.f (.tup ds) = .f (.tup d1) ∧ p d1 := ⟨ds, rfl, h⟩
theorem x_exs {a : Str} {p : Str → Prop} (h : p a) : ∃ d1, Sl.f (.str a) = .f (.str d1) ∧ p d1 := ⟨a, rfl, h⟩
theorem x_exi {a : Int} {p : Int → Prop} (h : p a) : ∃ d1, Sl.f (.int a) = .f (.int d1) ∧ p d1 := ⟨a, rfl, h⟩
theorem x_sl {lo hi : WO} (h : w env fun r e => ∃ d, r = .f d ∧ lo e fun l e2 => hi e2 fun u e3 => dSl d l u fun d => Q (.f d) e3) : wSl w lo hi env Q := h
theorem x_slN {q : Option Int → Env → Prop} (h : q none env) : woN env q := h
theorem x_slS {q : Option Int → Env → Prop} (h : w env fun r e => ∃ i, r = .f (.int i) ∧ q (some i) e) : woS w env q := h
theorem x_frz (h : w env fun r e => ∃ o d, r = .own o ∧ o.cd = some d ∧ Q (.f d) e) : wFrz w env Q := h
theorem x_frL {ds : List D} {p : D → Prop} (h : p (.lst ds)) : ∃ o d, Sl.own (.lst ds) = .own o ∧ o.cd = some d ∧ p d := ⟨_, _, rfl, rfl, h⟩
theorem x_revT (h : w env fun r e => ∃ ds, r = .f (.tup ds) ∧ Q (.f (.tup ds.reverse)) e) : wRevT w env Q := h
theorem x_revL (h : w env fun r e => ∃ ds, r = .f (.lst ds) ∧ Q (.f (.lst ds.reverse)) e) : wRevL w env Q := h
theorem x_setL {d : D} {ds : List D} {wi : WE} {q : Env → Prop} (h0 : env[i]? = some (some (.own (.lst ds)))) (h : wi env fun r e => ∃ k j ds, r = .f (.int k) ∧ e[i]? = some (some (.own (.lst ds))) ∧ ixN ds.length k = some j ∧ q (e.set i (some (.own (.lst (ds.set j d)))))) : gSetL i wi d env q := ⟨⟨ds, h0⟩, h⟩
theorem x_lc {wi : WI} {tg : Tgt} {vs : List Nat} (h : wi env fun ds e0 => ds.length ≤ 100000 ∧ ∃ J : Nat → List D → Env → Prop, J 0 [] e0 ∧
  (∀ i d acc e, ds[i]? = some d → J i acc e → ∃ xs, tg.get d = some xs ∧ t (setE (wipeE e vs) tg.js xs) fun b e2 => if b = true then w e2 fun r e3 => ∃ d', r = .f d' ∧ J (i + 1) (acc ++ [d']) e3 else J (i + 1) acc e2) ∧
  ∀ acc e, J ds.length acc e → Q (.own (.lst acc)) (wipeE e vs)) : wLc wi tg vs t w env Q := h
end
end Fx
namespace Fx
theorem mem1 {p : Nat → Prop} {x : PySem.Str} {a : Nat} (h : p a) : ∀ i ∈ [(x, a)].map (·.2), p i := fun i hi => by
  obtain rfl := List.mem_singleton.mp hi
  exact h
theorem mem2 {p : Nat → Prop} {x y : PySem.Str} {a b : Nat} (h : p a) (h2 : p b) : ∀ i ∈ [(x, a), (y, b)].map (·.2), p i := fun i hi => by
  rcases List.mem_cons.mp hi with rfl | hi
  · exact h
  · exact mem1 (x := y) h2 i hi
theorem mem3 {p : Nat → Prop} {x y z : PySem.Str} {a b c : Nat} (h : p a) (h2 : p b) (h3 : p c) : ∀ i ∈ [(x, a), (y, b), (z, c)].map (·.2), p i := fun i hi => by
  rcases List.mem_cons.mp hi with rfl | hi
  · exact h
  · exact mem2 (x := y) (y := z) h2 h3 i hi
end Fx
namespace Fx
open PySem L2
section
variable {Q : D → Prop}
theorem x_lenL {ds : List D} (h : Q (.int ds.length)) : cLen [.lst ds] Q := h
theorem x_lenT {ds : List D} (h : Q (.int ds.length)) : cLen [.tup ds] Q := h
theorem x_lenS {z : Str} (hz : z.length ≤ sizeLine) (h : Q (.int z.length)) : cLen [.str z] Q := ⟨hz, h⟩
theorem x_lenD {ks : List Key} {ds : List D} (h : Q (.int ds.length)) : cLen [.dic ks ds] Q := h
theorem x_max {a b : Int} (h : Q (.int (if b > a then b else a))) : cMax2 [.int a, .int b] Q := h
theorem x_min {a b : Int} (h : Q (.int (if b < a then b else a))) : cMin2 [.int a, .int b] Q := h
theorem x_intI {a : Int} (h : Q (.int a)) : cInt [.int a] Q := h
theorem x_intB {a : Bool} (h : Q (.int (if a then 1 else 0))) : cInt [.bl a] Q := h
theorem x_isi {d : D} {n : String} {b : Bool} (e : isiB d n = some b) (h : Q (.bl b)) : cIsi [d, .ty n] Q := ⟨b, e, h⟩
theorem x_all {bs : List Bool} (h : Q (.bl (bs.all id))) : cAll [.lst (bs.map D.bl)] Q := ⟨bs, rfl, h⟩
end
end Fx
namespace Fx
open PySem L2
theorem x_start {w : WS} {D : WEnds} {N : List Str} {as : List Sl} {e : Env} (h : startE N as = e) (q : w D e) : w D (startE N as) := by rw [h]; exact q
end Fx
namespace Fx
open PySem L2 Lk
def isInt : D → Bool
  | .int _ => true
  | .bl _ => true
  | _ => false
def isBl : D → Bool
  | .bl _ => true
  | _ => false
def isTup : D → Bool
  | .tup _ => true
  | _ => false
def isLst : D → Bool
  | .lst _ => true
  | _ => false
def isDic : D → Bool
  | .dic _ _ => true
  | _ => false
abbrev NoTy (d : D) : Prop := ∀ m, d ≠ .ty m
section
variable {d : D} {Q : D → Prop}
theorem kit_at {n : String} {b : Bool} {T : String} (e : tyN d = T) (nt : NoTy d) (h : kitB T n = some b) (q : Q (.bl b)) : cIsi [d, .ty n] Q := by
  refine ⟨b, ?_, q⟩
  unfold isiB
  split
  · exact absurd rfl (nt _)
  · rw [e]; exact h
theorem x_isInt (nt : NoTy d) (h : Q (.bl (isInt d))) : cIsi [d, .ty "int"] Q := by
  cases d <;> first | exact absurd rfl (nt _) | exact kit_at rfl nt (by simp only [tyN, isInt]; decide +kernel) h
theorem x_isBl (nt : NoTy d) (h : Q (.bl (isBl d))) : cIsi [d, .ty "bool"] Q := by
  cases d <;> first | exact absurd rfl (nt _) | exact kit_at rfl nt (by simp only [tyN, isBl]; decide +kernel) h
theorem x_isStr (nt : NoTy d) (h : Q (.bl (isStr d))) : cIsi [d, .ty "str"] Q := by
  cases d <;> first | exact absurd rfl (nt _) | exact kit_at rfl nt (by simp only [tyN, isStr]; decide +kernel) h
theorem x_isTup (nt : NoTy d) (h : Q (.bl (isTup d))) : cIsi [d, .ty "tuple"] Q := by
  cases d <;> first | exact absurd rfl (nt _) | exact kit_at rfl nt (by simp only [tyN, isTup]; decide +kernel) h
theorem x_isLst (nt : NoTy d) (h : Q (.bl (isLst d))) : cIsi [d, .ty "list"] Q := by
  cases d <;> first | exact absurd rfl (nt _) | exact kit_at rfl nt (by simp only [tyN, isLst]; decide +kernel) h
theorem x_isDic (nt : NoTy d) (h : Q (.bl (isDic d))) : cIsi [d, .ty "dict"] Q := by
  cases d <;> first | exact absurd rfl (nt _) | exact kit_at rfl nt (by simp only [tyN, isDic]; decide +kernel) h
end
end Fx

namespace Fx
open PySem L2 Lk
def memB (ds : List D) (a : D) : Bool := (D.pyL ds).any fun z => PyData.eqv z a.py
def eqB (a b : D) : Bool := PyData.eqv a.py b.py
section
variable {Q : D → Prop}
theorem x_inT {a : D} {ds : List D} (h1 : okPy a = true) (h2 : okPy (.tup ds) = true) (h : Q (.bl (memB ds a))) : dIn false a (.tup ds) Q := ⟨h1, h2, h⟩
theorem x_inL {a : D} {ds : List D} (h1 : okPy a = true) (h2 : okPy (.lst ds) = true) (h : Q (.bl (memB ds a))) : dIn false a (.lst ds) Q := ⟨h1, h2, h⟩
theorem x_ninT {a : D} {ds : List D} (h1 : okPy a = true) (h2 : okPy (.tup ds) = true) (h : Q (.bl (!memB ds a))) : dIn true a (.tup ds) Q := ⟨h1, h2, h⟩
theorem x_ninL {a : D} {ds : List D} (h1 : okPy a = true) (h2 : okPy (.lst ds) = true) (h : Q (.bl (!memB ds a))) : dIn true a (.lst ds) Q := ⟨h1, h2, h⟩
theorem x_eqD {a b : D} (h1 : okPy a = true) (h2 : okPy b = true) (h : Q (.bl (eqB a b))) : dEq false a b Q := ⟨h1, h2, h⟩
theorem x_neD {a b : D} (h1 : okPy a = true) (h2 : okPy b = true) (h : Q (.bl (!eqB a b))) : dEq true a b Q := ⟨h1, h2, h⟩
theorem x_neI {a b : Int} (h : Q (.bl (!decide (a = b)))) : dEq true (.int a) (.int b) Q := ⟨rfl, rfl, by
  rw [if_pos rfl]
  exact (show PyData.eqv (.int a) (.int b) = decide (a = b) by simp [PyData.eqv]; rfl) ▸ h⟩
def isNon : D → Bool
  | .non => true
  | _ => false
theorem x_isN {neg : Bool} {a : D} (h : Q (.bl (if isNon a = true then !neg else neg))) : dIsN neg a .non Q := by
  refine ⟨rfl, ?_⟩
  cases a <;> exact h
end
section
variable {w : WE} {env : Env} {Q : Sl → Env → Prop}
theorem x_allSg {lo hi : Str} (h : w env fun r e => ∃ a, r = .f (.str a) ∧ Q (.f (.bl (nmB lo hi a))) e) : wAllSg lo hi w env Q := h
theorem x_allStr (h : w env fun r e => ∃ ds, r = .f (.tup ds) ∧ (∀ d ∈ ds, ∀ m, d ≠ .ty m) ∧ Q (.f (.bl (ds.all isStr))) e) : wAllStr w env Q := h
theorem nine {ds : List D} (h : ds.length = 9) : ∃ a b c d e f g i j, ds = [a, b, c, d, e, f, g, i, j] := by
  match ds, h with
  | [a, b, c, d, e, f, g, i, j], _ => exact ⟨a, b, c, d, e, f, g, i, j, rfl⟩
end
end Fx
namespace Fx
open PySem PySem.Spec PyProof.Rows L2 Evl Lk
section
variable {X : Cx} {G : Gx} {w : WE} {c P : Addr} {iter : Expr} {x : Str} {px p pos gpos p1 p2 p3 p4 : Pos} {scope : Scope} {k : Nat}
theorem ge_allSgR {lo hi : Str} {j1 j2 : Nat} (TB : GxR.TabB X.base X.mg c P) (hr : Room k X.A) (hg : Gl X "all") (hm : X.mg "all" = none) (hcode : X.env.code = .ref c) (S : GxR.GenS X.env scope x) (hi' : GE X G iter w) (hs : ∀ v, genFold iter X.env v = pure v) (hP : P ∈ G.tabs)
    (hk : scope.kind = .function) (hl : scope.names.lookup x = some .local) (hd : (x == ("__debug__" : Str)) = false := by decide)
    (he : starEach [.GeneratorExp (.Compare (.Constant (.str lo) j1 p1) [.LtE, .LtE] [.Name x p2, .Constant (.str hi) j2 p3] p4) [⟨.Name x px, iter, [], 0⟩] scope gpos] X.env = (false, eval (.GeneratorExp (.Compare (.Constant (.str lo) j1 p1) [.LtE, .LtE] [.Name x p2, .Constant (.str hi) j2 p3] p4) [⟨.Name x px, iter, [], 0⟩] scope gpos) X.env) :: starEach [] X.env := by rfl) :
    GE X G (.Call (.Name "all" p) [.GeneratorExp (.Compare (.Constant (.str lo) j1 p1) [.LtE, .LtE] [.Name x p2, .Constant (.str hi) j2 p3] p4) [⟨.Name x px, iter, [], 0⟩] scope gpos] [] pos) (wAllSg lo hi w) :=
  ge_allSg (pe_allG TB hr hg hm hcode S hi'.pe hs he) hi'.mono hP hk hl hd
theorem ge_allStrR (TB : GxR.TabB X.base X.mg c P) (hr : Room k X.A) (hg : Gl X "all") (hm : X.mg "all" = none) (hcode : X.env.code = .ref c) (S : GxR.GenS X.env scope x) (hi' : GE X G iter w) (hs : ∀ v, genFold iter X.env v = pure v) (hP : P ∈ G.tabs)
    (hk : scope.kind = .function) (hl : scope.names.lookup x = some .local) (g1 : scope.names.lookup ("isinstance" : Str) = some .globalImplicit) (m1 : X.mg "isinstance" = none) (g2 : scope.names.lookup ("str" : Str) = some .globalImplicit) (m2 : X.mg "str" = none) (hK : X.K = G.K := by rfl) (hd : (x == ("__debug__" : Str)) = false := by decide)
    (he : starEach [.GeneratorExp (.Call (.Name "isinstance" p1) [.Name x p2, .Name "str" p3] [] p4) [⟨.Name x px, iter, [], 0⟩] scope gpos] X.env = (false, eval (.GeneratorExp (.Call (.Name "isinstance" p1) [.Name x p2, .Name "str" p3] [] p4) [⟨.Name x px, iter, [], 0⟩] scope gpos) X.env) :: starEach [] X.env := by rfl) :
    GE X G (.Call (.Name "all" p) [.GeneratorExp (.Call (.Name "isinstance" p1) [.Name x p2, .Name "str" p3] [] p4) [⟨.Name x px, iter, [], 0⟩] scope gpos] [] pos) (wAllStr w) :=
  ge_allStr (pe_allG TB hr hg hm hcode S hi'.pe hs he) hi'.mono hP hk hl g1 m1 g2 m2 hK hd
end
end Fx

namespace Fx
open PySem PySem.Spec PyProof.Rows L2 Evl Lk
section
variable {X : Cx} {G : Gx}
theorem ipx_of {op : Operator} {g : Int → Int → Int} (h : PIp X op (ipI g)) : IpX X G op (dII (fun _ _ => True) g) := by
  refine ⟨fun pins s σ H x y v u Q I rx ry ⟨T, d1, d2, t, c1, c2, q⟩ => ?_, fun a b Q Q' i q => ?_⟩
  · cases d1 with
    | int i =>
      cases d2 with
      | int j =>
        cases c1
        cases c2
        exact h pins s σ H _ _ v u Q I rx ry ⟨i, j, rfl, rfl, q.2 _ H (Ex.refl H) (.int _)⟩
      | _ => exact (show False from q).elim
    | _ => exact (show False from q).elim
  · cases a <;> cases b <;> first | exact ⟨q.1, i _ q.2⟩ | exact q
theorem ipx_add : IpX X G .Add (dII (fun _ _ => True) fun i j => i + j) := ipx_of ip_add
theorem ipx_sub : IpX X G .Sub (dII (fun _ _ => True) fun i j => i - j) := ipx_of ip_sub
theorem gs_augE {i : Nat} {x : Str} {e : Expr} {we : WE} {op : Operator} {o2 : Op2} {pos pos' : Pos} (hN : X.N.Nodup) (hi : X.N[i]? = some x) (hx : Loc X.env.scope x) (he : GE X G e we) (ho : IpX X G op o2) (hp : G.prot i = false := by rfl)
    (hf : X.fn x = true ∨ X.env.scope.names.lookup x = some .local := by first | exact .inl rfl | exact .inr rfl) : GS X G (.AugAssign (.Name x pos') op e pos) (wAug i we o2) :=
  gs_aug (op := op) (ps_aug hN hi hx he.pe ho.ok hf) he.mono ho.mono hp
end
section
variable {env : Env} {n b c : Env → Prop} {r : Sl → Env → Prop} {i : Nat} {we wi : WE} {o2 : Op2} {QD : D → Prop}
theorem x_ipA {a b : Int} (h : QD (.int (a + b))) : dII (fun _ _ => True) (fun i j => i + j) (.int a) (.int b) QD := ⟨True.intro, h⟩
theorem x_aug {d : D} (h0 : env[i]? = some (some (.f d))) (h : we env fun r e => ∃ d2, r = .f d2 ∧ o2 d d2 fun d3 => i < e.length ∧ n (e.set i (some (.f d3)))) : wAug i we o2 ⟨n, r, b, c⟩ env := ⟨d, h0, h⟩
theorem x_augL {ds0 : List D} (h0 : env[i]? = some (some (.own (.lst ds0)))) (h : wi env fun r e => ∃ k ds d, r = .f (.int k) ∧ e[i]? = some (some (.own (.lst ds))) ∧ 0 ≤ k ∧ ds[k.toNat]? = some d ∧ we e fun r2 e2 => ∃ d2, r2 = .f d2 ∧ o2 d d2 fun d3 => ∃ ds2 j, e2[i]? = some (some (.own (.lst ds2))) ∧ ixN ds2.length k = some j ∧ n (e2.set i (some (.own (.lst (ds2.set j d3)))))) : wAugL i wi we o2 ⟨n, r, b, c⟩ env := ⟨⟨ds0, h0⟩, h⟩
theorem x_augL1 {e : Env} {ds : List D} {k : Int} {d : D} {p : Int → List D → D → Prop} (h0 : e[i]? = some (some (.own (.lst ds)))) (hk : 0 ≤ k) (hd : ds[k.toNat]? = some d) (h : p k ds d) : ∃ k' ds d, Sl.f (.int k) = .f (.int k') ∧ e[i]? = some (some (.own (.lst ds))) ∧ 0 ≤ k' ∧ ds[k'.toNat]? = some d ∧ p k' ds d := ⟨k, ds, d, rfl, h0, hk, hd, h⟩
theorem x_setL1 {e : Env} {ds : List D} {k : Int} {j : Nat} {d : D} {q : Env → Prop} (h0 : e[i]? = some (some (.own (.lst ds)))) (hj : ixN ds.length k = some j) (h : q (e.set i (some (.own (.lst (ds.set j d)))))) : ∃ k' j ds, Sl.f (.int k) = .f (.int k') ∧ e[i]? = some (some (.own (.lst ds))) ∧ ixN ds.length k' = some j ∧ q (e.set i (some (.own (.lst (ds.set j d))))) := ⟨k, j, ds, rfl, h0, hj, h⟩
theorem x_augL2 {e : Env} {ds : List D} {k : Int} {j : Nat} {d : D} {q : Env → Prop} (h0 : e[i]? = some (some (.own (.lst ds)))) (hj : ixN ds.length k = some j) (h : q (e.set i (some (.own (.lst (ds.set j d)))))) : ∃ ds j, e[i]? = some (some (.own (.lst ds))) ∧ ixN ds.length k = some j ∧ q (e.set i (some (.own (.lst (ds.set j d))))) := ⟨ds, j, h0, hj, h⟩
theorem x_endU {m : Nat} {env : Env} {o' : O} {p : O → Prop} (h1 : m ≤ env.length) (h2 : env[0]? = some (some (.own o'))) (h : p o') : m ≤ env.length ∧ ∃ o', env[0]? = some (some (.own o')) ∧ p o' := ⟨h1, o', h2, h⟩
end
theorem mul_ok {i j : Int} (hi : i.natAbs < 2 ^ 250) (hj : j.natAbs < 2 ^ 250) : CMulW i j := by
  have a := PySem.Flt.log2_lt_of (by decide) hi
  have b := PySem.Flt.log2_lt_of (by decide) hj
  show i.natAbs.log2 + j.natAbs.log2 < 1000000
  omega
theorem div_ok {i j : Int} (h0 : 0 < j) (hj : j.natAbs < 2 ^ 250) : CDivW i j := ⟨h0, by
  have b := PySem.Flt.log2_lt_of (by decide) hj
  omega⟩
/-! ### the urn of a law -/
def Un (o : O) (n : Nat) : Prop := ∃ a b c : Int, o = .lst [.int a, .int b, .int c] ∧ b.natAbs < 2 ^ 200 ∧ 0 ≤ c ∧ c ≤ n
theorem Un.mono {o : O} {n m : Nat} (h : Un o n) (e : n ≤ m) : Un o m := let ⟨a, b, c, h1, h2, h3, h4⟩ := h; ⟨a, b, c, h1, h2, h3, by omega⟩
/-- a def that draws: many to draw at most, what of -/
def wDraw (most : Nat) (P : Sl → Prop) : WUn := fun o ds Q => ∃ n, ds = [] ∧ Un o n ∧ n + most ≤ 100000 ∧ ∀ r o', P r → Un o' (n + most) → Q r o'
theorem mono_draw {most : Nat} {P : Sl → Prop} : MonoU2 (wDraw most P) := fun o ds Q Q' i ⟨n, h1, h2, h3, q⟩ => ⟨n, h1, h2, h3, fun r o' a b => i _ _ (q r o' a b)⟩
def wLot : WUn := fun o ds Q => ∃ n m, ds = [.int m] ∧ Un o n ∧ n < 100000 ∧ 0 < m ∧ m ≤ 1000000000 ∧ ∀ k o', 0 ≤ k → k < m → Un o' (n + 1) → Q (.f (.int k)) o'
theorem mono__law_lot : MonoU2 wLot := fun o ds Q Q' i ⟨n, m, h1, h2, h3, h4, h5, q⟩ => ⟨n, m, h1, h2, h3, h4, h5, fun k o' a b c => i _ _ (q k o' a b c)⟩
theorem x_lot {o : O} {n : Nat} {m : Int} {Q : Sl → O → Prop} (u : Un o n) (hn : n < 100000) (h0 : 0 < m) (h1 : m ≤ 1000000000) (q : ∀ k o', 0 ≤ k → k < m → Un o' (n + 1) → Q (.f (.int k)) o') : wLot o [.int m] Q := ⟨n, m, rfl, u, hn, h0, h1, q⟩
def wUrn : WFn := fun ds Q => ∃ c k : Int, ds = [.int c, .int k] ∧ 0 ≤ k ∧ k ≤ 63 ∧ ∀ o, Un o 0 → Q (.own o)
theorem mono__law_urn : MonoF wUrn := fun ds Q Q' i ⟨c, k, h1, h2, h3, q⟩ => ⟨c, k, h1, h2, h3, fun o u => i _ (q o u)⟩
end Fx
namespace Fx
open PySem PySem.Spec PyProof.Rows L2 Evl Lk
section
variable {env : Env} {Q : Sl → Env → Prop} {w w1 w2 : WE} {wd : WAD} {wa : WA} {QI : List D → Env → Prop} {QA : List Ag → Env → Prop} {n b c : Env → Prop} {r : Sl → Env → Prop}
theorem x_join (h : w1 env fun r1 e1 => ∃ a, r1 = .f (.str a) ∧ w2 e1 fun r2 e2 => ∃ ds ys, (r2.cd = some (.lst ds) ∨ r2.cd = some (.tup ds)) ∧ ds = ys.map D.str ∧ (ys.map (·.length)).sum + ys.length * a.length ≤ 16777216 ∧ Q (.f (.str (Txt.join a ys))) e2) : wJoin w1 w2 env Q := h
theorem x_waD (h : wd env fun ds e => QA (ds.map agD) e) : waD wd env QA := h
theorem x_r1 (h : wa env fun as e => ∃ j : Int, as = [.v (.f (.int j))] ∧ -(2 ^ 62) ≤ j ∧ j < 2 ^ 62 ∧ QI ((List.range j.toNat).map fun k : Nat => .int (0 + (k : Int))) e) : wiR1 wa env QI := h
theorem x_r2 (h : wa env fun as e => ∃ i j : Int, as = [.v (.f (.int i)), .v (.f (.int j))] ∧ (-(2 ^ 62) ≤ i ∧ i < 2 ^ 62 ∧ -(2 ^ 62) ≤ j ∧ j < 2 ^ 62) ∧ QI ((List.range (j - i).toNat).map fun k : Nat => .int (i + (k : Int))) e) : wiR2 wa env QI := h
theorem x_r1e {k : Int} {p : Int → Prop} (h0 : -(2 ^ 62) ≤ k) (h1 : k < 2 ^ 62) (h : p k) : ∃ j : Int, List.map agD [.int k] = [.v (.f (.int j))] ∧ -(2 ^ 62) ≤ j ∧ j < 2 ^ 62 ∧ p j := ⟨k, rfl, h0, h1, h⟩
theorem x_r2e {i j : Int} {p : Int → Int → Prop} (h0 : -(2 ^ 62) ≤ i ∧ i < 2 ^ 62 ∧ -(2 ^ 62) ≤ j ∧ j < 2 ^ 62) (h : p i j) : ∃ i' j' : Int, List.map agD [.int i, .int j] = [.v (.f (.int i')), .v (.f (.int j'))] ∧ (-(2 ^ 62) ≤ i' ∧ i' < 2 ^ 62 ∧ -(2 ^ 62) ≤ j' ∧ j' < 2 ^ 62) ∧ p i' j' := ⟨i, j, rfl, h0, h⟩
theorem x_iL (h : w env fun r e => ∃ ds, r = .f (.lst ds) ∧ QI ds e) : wiL w env QI := h
theorem x_iT (h : w env fun r e => ∃ ds, r = .f (.tup ds) ∧ QI ds e) : wiT w env QI := h
theorem x_iS (h : w env fun r e => ∃ x, r = .f (.str x) ∧ QI (signs x) e) : wiS w env QI := h
theorem x_iE (h : wa env fun as e => ∃ ds, as = [.v (.f (.lst ds))] ∧ QI (ds.mapIdx fun i d => .tup [.int (i : Nat), d]) e) : wiE wa env QI := h
theorem x_iEe {ds : List D} {p : List D → Prop} (h : p ds) : ∃ ds', List.map agD [.lst ds] = [.v (.f (.lst ds'))] ∧ p ds' := ⟨ds, rfl, h⟩
theorem x_yes {QT : Bool → Env → Prop} (h : QT true env) : wYes env QT := h
theorem x_for {wi : WI} {g : WG} {ws : WS} (h : wi env fun ds e0 => ∃ J : Nat → Env → Prop, J 0 e0 ∧ (∀ i d e, ds[i]? = some d → J i e → g d e fun e' => ws ⟨J (i + 1), r, n, J (i + 1)⟩ e') ∧ ∀ e, J ds.length e → n e) : wFor wi g ws ⟨n, r, b, c⟩ env := h
def nmD : D → Bool
  | .str x => nmL x.cps.toList
  | _ => false
theorem nmD_is {d : D} (h : nmD d = true) : ∃ x, d = .str x ∧ IsNm x := by
  cases d <;> first | exact ⟨_, rfl, h⟩ | cases h
theorem all_memD {p : D → Bool} {ds : List D} (h : ds.all p = true) {d : D} (m : d ∈ ds) : p d = true := List.all_eq_true.mp h d m
theorem ones_D (l : List Nat) : (l.map fun c => (⟨#[c]⟩ : Str)).map D.str = l.map fun c => D.str ⟨#[c]⟩ := by
  rw [List.map_map] <;> rfl
theorem rng_at {k i : Nat} {d : D} (h : ((List.range k).map fun j : Nat => D.int (0 + (j : Int)))[i]? = some d) : i < k ∧ d = .int (i : Int) := by
  rw [List.getElem?_map] at h
  have hi : i < k := by
    rcases Nat.lt_or_ge i k with z | z
    · exact z
    · rw [List.getElem?_eq_none (by rw [List.length_range]; exact z)] at h
      cases h
  rw [List.getElem?_range hi] at h
  refine ⟨hi, ?_⟩
  have h : some (D.int (0 + (i : Int))) = some d := h
  rw [Int.zero_add] at h
  exact (Option.some.inj h).symm
end
end Fx
namespace Fx
open PySem PySem.Spec PyProof.Rows L2 Evl Lk
theorem x_ixSM {QD : D → Prop} {z : Str} {k : Int} (hz : z.length ≤ sizeLine) (h0 : 0 ≤ k) (h1 : k < z.cps.toList.length) (h : ∀ c ∈ z.cps.toList, QD (.str ⟨#[c]⟩)) : dIx (.str z) (.int k) QD := by
  obtain ⟨c, h2, h3⟩ := atI_at h0 h1
  exact ⟨hz, c, h2, h c (List.mem_of_getElem? h3)⟩
end Fx
namespace Fx
open PySem PySem.Spec PyProof.Rows L2 Evl Lk
/-! a cut behind a statement -/
def wCut (w1 w2 : WS) : WS := fun D env => ∃ P : Env → Prop, w1 ⟨P, D.rt, D.bk, D.ct⟩ env ∧ ∀ e, P e → w2 D e
theorem gss_cut {X : Cx} {G : Gx} {st : Stmt} {rest : List Stmt} {w1 w2 : WS} (h : GS X G st w1) (h2 : GSs X G rest w2) : GSs X G (st :: rest) (wCut w1 w2) := by
  have c := gss_cons h h2
  refine ⟨pss_imp c.pss fun D σ H ⟨T, env, F, r, P, q1, q2⟩ => ⟨T, env, F, r, h.mono _ _ _ ?_ q1⟩, fun D D' env l ⟨P, q1, q2⟩ => ⟨P, h.mono _ _ _ ?_ q1, fun e p => h2.mono _ _ _ l (q2 e p)⟩⟩
  · exact ⟨fun e p => q2 e p, fun _ _ q => q, fun _ q => q, fun _ q => q⟩
  · exact ⟨fun e p => p, l.rt, l.bk, l.ct⟩
section
variable {env : Env} {n b c : Env → Prop} {r : Sl → Env → Prop} {s1 s2 : WS}
theorem x_cut (P : Env → Prop) (h : s1 ⟨P, r, b, c⟩ env) (h2 : ∀ e, P e → s2 ⟨n, r, b, c⟩ e) : wCut s1 s2 ⟨n, r, b, c⟩ env := ⟨P, h, h2⟩
end
/-! texts -/
theorem strOk_of (s : String) : PyData.strOk (Str.ofString s) = true := by
  unfold PyData.strOk
  rw [Str.ofString_eq_toList, Array.all_eq_true']
  intro x hx
  have hx : x ∈ s.toList.map Char.toNat := by simpa using hx
  obtain ⟨ch, _, rfl⟩ := List.mem_map.mp hx
  refine decide_eq_true ?_
  have h := ch.valid
  show ch.val.toNat < _
  rcases h with z | ⟨_, z⟩
  · exact Nat.lt_of_lt_of_le z (by decide)
  · exact z
theorem strOk_list {x : Str} (h : ∀ c ∈ x.cps.toList, c < 0x110000) : PyData.strOk x = true := by
  unfold PyData.strOk
  rw [Array.all_eq_true']
  exact fun c hc => decide_eq_true (h c (by simpa using hc))
theorem strOk_mem {x : Str} (h : PyData.strOk x = true) : ∀ c ∈ x.cps.toList, c < 0x110000 := fun c hc => by
  unfold PyData.strOk at h
  rw [Array.all_eq_true'] at h
  exact of_decide_eq_true (h c (by simpa using hc))
theorem nm_cps {x : Str} (h : IsNm x) : ∀ c ∈ x.cps.toList, 97 ≤ c ∧ c ≤ 122 := by
  unfold IsNm nmL at h
  simp only [Bool.and_eq_true, decide_eq_true_eq, List.all_eq_true] at h
  exact h.2
theorem nm_ok {x : Str} (h : IsNm x) : PyData.strOk x = true := strOk_list fun c hc => by
  have := nm_cps h c hc
  omega
theorem strOk_app {x y : Str} (h : PyData.strOk x = true) (h2 : PyData.strOk y = true) : PyData.strOk (x ++ y) = true := strOk_list fun c hc => by
  have e : (x ++ y).cps.toList = x.cps.toList ++ y.cps.toList := by
    show (x.cps ++ y.cps).toList = _
    rw [Array.toList_append]
  rw [e] at hc
  rcases List.mem_append.mp hc with z | z
  · exact strOk_mem h c z
  · exact strOk_mem h2 c z
theorem up_ok {x : Str} (h : IsNm x) : PyData.strOk (Txt.upper x) = true := strOk_list fun c hc => by
  have key : ∀ d, 97 ≤ d → d ≤ 122 → ∀ c ∈ Unicode.upperOf d, c < 0x110000 := by
    intro d h1 h2
    have all : (List.range 26).all (fun k => (Unicode.upperOf (97 + k)).all fun c => decide (c < 0x110000)) = true := by decide +kernel
    have z := List.all_eq_true.mp all (d - 97) (List.mem_range.mpr (by omega))
    rw [show 97 + (d - 97) = d by omega] at z
    exact fun c hc => of_decide_eq_true (List.all_eq_true.mp z c hc)
  have hc : c ∈ (x.cps.mapIdx fun _ c => (Unicode.upperOf c).toArray).flatten.toList := hc
  have hc := Array.mem_toList_iff.mp hc
  rw [Array.mem_flatten] at hc
  obtain ⟨a, ha, hca⟩ := hc
  obtain ⟨i, hi, rfl⟩ := Array.mem_mapIdx.mp ha
  have m : x.cps[i] ∈ x.cps.toList := by simp
  have b := nm_cps h _ m
  exact key _ b.1 b.2 c (by simpa using hca)
theorem okPy_str {x : Str} (h : PyData.strOk x = true) : okPy (.str x) = true := by
  unfold okPy SeqAt.shaped
  rw [Bool.and_eq_true]
  exact ⟨by show PyData.canLay0 (.str x) = true; unfold PyData.canLay0; exact h, by show decide (PyData.depth (.str x) ≤ 64) = true; unfold PyData.depth; rfl⟩
end Fx
namespace Fx
open PySem PySem.Spec PyProof.Rows L2 Evl Lk
section
variable {Q : D → Prop} {env : Env} {QE : Sl → Env → Prop} {w : WE}
theorem x_slT {ds ds' : List D} {lo hi : Option Int} (e : cutD ds lo hi = ds') (h : Q (.tup ds')) : dSl (.tup ds) lo hi Q := by subst e; exact h
theorem x_slL {ds ds' : List D} {lo hi : Option Int} (e : cutD ds lo hi = ds') (h : Q (.lst ds')) : dSl (.lst ds) lo hi Q := by subst e; exact h
theorem x_m0 {o : Str → (D → Prop) → Prop} (h : w env fun r e => ∃ a, r = .f (.str a) ∧ o a fun d => QE (.f d) e) : wM0 o w env QE := h
theorem x_up {a : Str} (hz : a.length ≤ 5592405) (h : Q (.str (Txt.upper a))) : mUpper a Q := ⟨hz, h⟩
theorem x_index {is : List Int} {k : Int} {j : Nat} (hj : is[j]? = some k) (hno : ∀ m, m < j → is[m]? ≠ some k) (h : Q (.int (j : Nat))) (hok : okPy (.lst (is.map D.int)) = true) : fIndex [.int k] (is.map D.int) Q := by
  refine ⟨.int k, j, .int k, rfl, rfl, hok, by rw [List.getElem?_map, hj]; rfl, ?_, fun m z' hm hz => ?_, h⟩
  · show PyData.eqv (.int k) (.int k) = true
    unfold PyData.eqv
    exact beq_self_eq_true k
  · rw [List.getElem?_map] at hz
    cases e : is[m]? with
    | none => rw [e] at hz; cases hz
    | some i =>
      rw [e] at hz
      cases hz
      have n := hno m hm
      rw [e] at n
      show PyData.eqv (.int i) (.int k) = false
      unfold PyData.eqv
      exact beq_false_of_ne fun z => n (by rw [z])
theorem x_lstT {ds : List D} (h : Q (.lst ds)) : cList [.tup ds] Q := h
theorem x_lstL {ds : List D} (h : Q (.lst ds)) : cList [.lst ds] Q := h
theorem x_strI {i : Int} (hz : i.natAbs.log2 < 1920) (h : Q (.str (toString i))) : cStrA [.int i] Q := ⟨hz, h⟩
theorem x_strB {b : Bool} (h : Q (.str (if b then "True" else "False"))) : cStrA [.bl b] Q := h
theorem x_strN (h : Q (.str "None")) : cStrA [.non] Q := h
theorem x_strS {a : Str} (h : Q (.str a)) : cStrA [.str a] Q := h
end
end Fx

namespace Fx
open PySem PySem.Spec PyProof.Rows L2 Evl Lk
/-! ### the law as the top calls it -/
def wLaw : WFn := fun ds Q => ∃ ns : List Int, ds = [.lst (ns.map D.int)] ∧ ns.length ≤ 63 ∧ Q (.f (.bl true))
theorem fz_ints {K : PySem.W.Frag} {H : Hp} : ∀ ns : List Int, FzL K H (ns.map V.int) (ns.map D.int)
  | [] => .nil
  | n :: ns => .cons (.int n) (fz_ints ns)
theorem law_at {l : PySem.W.OpenLaw} {w : World} {K : PySem.W.Frag} {k : Nat} {x : Str} {mg : Str → Option Value} {h : Heap} {fa : Addr} {fd : FuncData} {cs : List (Addr × Addr)}
    (hT : ∀ p ∈ cs, h.get? p.2 = some { cls := .none, data := .fields #[] }) (nT : ∀ p ∈ cs, K.lookup p.2 = none) (C : ∀ p ∈ cs, PySem.W.CodeHd h p.1 p.2) (hb : ∀ (s : Shared) (u : Value), BindsTo s fd ⟨[u], []⟩ [(x, u)])
    (F : ∀ base : Heap, K.In base → base.Ns mainGlobals mg → (∀ p ∈ cs, GxR.TabB base mg p.1 p.2) → FnOk l.prog w K mg base CX0 k fa fd [x] (spW K (cs.map (·.2)) (liftF wLaw))) : LawAt l w K k 63 x mg h fa := by
  refine ⟨fd, cs, _, hT, nT, C, hb, fun H a ns hn _ hH hS => ?_, F⟩
  have e : Ex H (hid (fun _ => False) H) := fun b o q => hid_of q id
  refine ⟨fun _ => False, [.f (.lst (ns.map D.int))], fun _ => [], ⟨fun _ z => z.elim, fun p hp => ?_, fun i s hs => ?_, fun i j _ ⟨o, ho⟩ => ?_, .refl fun _ z => z.elim, fun b ⟨i, ⟨o, ho⟩, _⟩ => ?_, fun _ z => z.elim, fun _ _ => rfl, rfl, ex_none⟩, [.lst (ns.map D.int)], rfl, ns, rfl, hn, fun v T' H' F' fr r' _ zs => ?_⟩
  · obtain ⟨q, hq, rfl⟩ := List.mem_map.mp hp
    exact ⟨hH q hq, id⟩
  · cases i with
    | zero =>
      cases hs
      exact ⟨.ref a, rfl, .lst (ex_l e hS.l) (fz_ints ns), rfl⟩
    | succ i => cases hs
  · cases i with
    | zero => cases ho
    | succ i => cases ho
  · cases i with
    | zero => cases ho
    | succ i => cases ho
  · have z := zs.rel.1
    cases z
    exact ⟨rfl, fun p hp => (r'.tab p.2 (List.mem_map.mpr ⟨p, hp, rfl⟩)).1⟩
end Fx

namespace L2
open PySem PySem.Spec PyProof.Rows
/-! ### except x as n, the exception's object tracked within the suite and behind it -/
section
variable {X : Cx} {pins : List (Addr × Obj)} {σ : St} {H : Hp} {s : Shared} {a : Addr} {o : HO}
/-- an object that stood untracked is tracked -/
theorem Inv.track (I : Inv X pins σ H s) (na : H a = none) (h0 : X.s_0.heap.get? a = none) (nL : a ≠ X.env.locals) (nc : ∀ x c, X.env.cells.lookup x = some c → c ≠ a) (np : ∀ p ∈ X.pn ++ pins, p.1 ≠ a) (ok : ObjOk X.prog X.w (upd H a o) s.heap a o) :
    Inv X pins σ (upd H a o) s := by
  have ne : ∀ {b : Addr} {u : HO}, H b = some u → b ≠ a := fun h => ne_of_none h na
  have ne0 : ∀ {b : Addr} {u : Obj}, X.s_0.heap.get? b = some u → b ≠ a := fun h z => by rw [z, h0] at h; cases h
  refine ⟨I.ok, I.os, I.bare, ⟨I.base.keep, I.base.slot, fun b u q n hx => ?_, I.base.there, fun b xs q => ?_, fun b u xs q => ?_, fun b ps q => ?_⟩, I.loc, I.cell, ?_, fun x c e => ?_, fun p hp => ?_, fun b u e => ?_, I.len⟩
  · rw [upd_ne (ne0 q)]
    exact I.base.free b u q n hx
  · have e := I.base.tups b xs q
    rw [upd_ne (ne e)]
    exact e
  · have e := I.base.frzs b u xs q
    rw [upd_ne (ne e)]
    exact e
  · obtain ⟨m, e⟩ := I.base.tbls b ps q
    exact ⟨m, by rw [upd_ne (ne e)]; exact e⟩
  · rw [upd_ne (Ne.symm nL)]
    exact I.free
  · rw [upd_ne (nc x c e)]
    exact I.freeC x c e
  · obtain ⟨g1, g2, g3⟩ := I.pin p hp
    exact ⟨g1, by rw [upd_ne (np p hp)]; exact g2, g3⟩
  · by_cases hb : b = a
    · subst hb
      rw [upd_same] at e
      cases e
      exact ok
    · rw [upd_ne hb] at e
      exact (I.hok b u e).stay (fun _ _ _ q => q) (fun c q => by rw [upd_ne (ne q)]; exact q) fun c xs q => by rw [upd_ne (ne q)]; exact q
end
/-- the context of an except suite whose exception is tracked -/
abbrev Cx.suiteT (X : Cx) (a : Addr) (pn : List (Addr × Obj)) : Cx := { X with A := X.A.mark (some (.ref a)), calm := false, pn := pn, xe := fun _ _ => False }
theorem Cx.Ok.suiteT {X : Cx} (ok : X.Ok) (a : Addr) (pn : List (Addr × Obj)) : (X.suiteT a pn).Ok :=
  ⟨ok.mod, ok.kind, ok.glob, ok.blt, ok.above, ok.inj, ok.has, ok.cab, (fun z => absurd (show false = true from z) Bool.false_ne_true), ok.frames, ok.stk, ok.exf, ok.bs, ok.bsz, ok.noex, ok.exfs, ok.funs, ok.frf⟩
theorem Inv.suiteT {X : Cx} {pins : List (Addr × Obj)} {σ : St} {H : Hp} {s : Shared} (I : Inv X pins σ H s) (a : Addr) : Inv (X.suiteT a (X.pn ++ pins)) [] σ H s :=
  ⟨I.ok.suiteT _ _, I.os, I.bare, I.base, I.loc, I.cell, I.free, I.freeC, fun p hp => I.pin p (by rw [List.append_nil] at hp; exact hp), I.hok, I.len⟩
theorem Inv.unsuiteT {X : Cx} {pins : List (Addr × Obj)} {σ : St} {H : Hp} {s : Shared} {a : Addr} (I : Inv (X.suiteT a (X.pn ++ pins)) [] σ H s) (ok : X.Ok) : Inv X pins σ H s :=
  ⟨ok, I.os, I.bare, I.base, I.loc, I.cell, I.free, I.freeC, fun p hp => I.pin p (by rw [List.append_nil]; exact hp), I.hok, I.len⟩
/-- the handled exception, tracked -/
def ExTk (a : Addr) (cls : Value) (d : Option Addr) : HO := .ext fun h => ∃ (oe : Obj) (vs : Array Value), h.get? a = some oe ∧ oe.cls = cls ∧ oe.dict = d ∧ oe.data = .fields vs
theorem exTk_ok {P : Program} {w : World} {H : Hp} {h : Heap} {a : Addr} {cls : Value} {d : Option Addr} {oe : Obj} {vs : Array Value} (e : h.get? a = some oe) (z : Zc cls d oe) (hd : oe.data = .fields vs) : ObjOk P w H h a (ExTk a cls d) :=
  ⟨⟨oe, vs, e, z.1, z.2, hd⟩, ⟨oe, e⟩, fun h1 h2 ⟨oe, vs, e, r⟩ k => ⟨oe, vs, k oe e, r⟩⟩
def wAsT (K : PySem.W.Frag) (c : Value) (i : Nat) (ts : TS) (Wout : WX) (D : Ends) : WX := fun cls d σ H =>
  ∃ b, PySem.W.exmOne K cls c = some b ∧ (b = true → ∀ a, H a = none → ts { nx := fun σ' H' => D.nx (σ'.set i none) H', rt := D.rt, bk := fun σ' H' => D.bk (σ'.set i none) H', ct := fun σ' H' => D.ct (σ'.set i none) H' } (σ.set i (some (.ref a))) (upd H a (ExTk a cls d))) ∧
    (b = false → Wout cls d σ H)
section
variable {X : Cx} {x n : Str} {c : Value} {i : Nat} {body suite : List Stmt} {b₀ : Stmt} {np pos pos' : Pos} {tb : WX → TS} {ts : TS} {Wout : WX}
theorem ps_try_asT (hs : X.stack = X.env :: X.outer) (hf : X.env.frame = some X.env.locals) (hex : X.ex = []) (hN : X.N.Nodup) (hi : X.N[i]? = some n) (hln : X.env.kindOf n = some .local) (hc : Names X x c) (tk : Takes X Wout)
    (hb : ∀ (W : WX) (pn : List (Addr × Obj)) (xe : Value → Shared → Prop), Takes (X.tr pn xe) W → PassesOwn (model X.prog X.w) X.A X.env xe → PSs (X.tr pn xe) body (tb W))
    (hsu : ∀ (a : Addr) (pn : List (Addr × Obj)), PSs (X.suiteT a pn) (b₀ :: suite) ts) :
    PS X (.Try body [.ExceptHandler (some (.Name x np)) (some n) (b₀ :: suite) pos'] [] [] pos) (fun D σ H => tb (wAsT X.K c i ts Wout D) D σ H) := by
  refine ⟨fun pins s σ H D I h => ?_⟩
  have ok := I.ok
  have hfr : X.A.frames = some (X.env :: X.outer) := by rw [ok.frames, hs]
  have hloc : Loc X.env.scope n := .inl hln
  refine wpAny_Try_except ?_
  refine wpAny_mono ((hb (wAsT X.K c i ts Wout D) (X.pn ++ pins) (fun e s₁ => wpAny (model X.prog X.w) X.A (noteFrame e X.env) (fun _ s₂ => wpAny (model X.prog X.w) X.A (setFlight e none) (fun _ s₃ =>
    wpAny (model X.prog X.w) X.A (handleBy e X.env [.ExceptHandler (some (.Name x np)) (some n) (b₀ :: suite) pos']) (SP X pins D) X.xe s₃) X.xe s₂) X.xe s₁) (fun u s' xx => ?_) PassesOwn.looking).run [] s σ H D (I.toTry _) h) (fun f s1 hsp => ?_) (fun e s1 he => he)
  · -- the catch
    obtain ⟨a, B, sI, pins', σ', H', cls, d, rfl, J', nb, up, sky, na, os, ag, b, hb1, hyes, hno⟩ := xx
    have J : Inv X pins σ' H' sI := J'.ofTry ok
    have sky' : Sky B (X.env :: X.outer) a (Zc cls d) X.env.locals s'.heap := by rw [← hs]; exact sky
    show wpAny (model X.prog X.w) X.A (noteFrame (.ref a) X.env) _ _ _
    refine Sky.land Zc.steady hfr hf sky' fun h3 fl3 up3 => ?_
    have J3 : Inv X pins σ' H' { s' with heap := h3 } := J.landed nb fl3.1 (up.trans up3) os ag
    obtain ⟨oe3, vs3, he3, hz3, hd3⟩ := fl3.there
    have notFr : ∀ {h : Heap} {o : Obj} {vs : Array Value}, h.FunFrames B (X.env :: X.outer) → h.get? a = some o → o.data = .fields vs → a ∉ frs (X.env :: X.outer) := fun {h o vs} ff e dd hm => by
      obtain ⟨_, o', e', hnf⟩ := ff.mem hm
      rw [e] at e'; cases e'
      exact hnf _ dd
    have nfr := notFr fl3.2.2.1 he3 hd3
    have nL : a ≠ X.env.locals := fun z => nfr (List.mem_filterMap.mpr ⟨X.env, List.mem_cons_self, by rw [hf, z]⟩)
    have nF : a ∉ X.fs := fun hm => by
      obtain ⟨e, he, q⟩ := List.mem_filterMap.mp hm
      exact nfr (List.mem_filterMap.mpr ⟨e, List.mem_cons_of_mem _ he, q⟩)
    -- it did not stand ahead
    have naI : sI.heap.get? a = none := by
      cases e : sI.heap.get? a with
      | none => rfl
      | some u =>
        have z := nb a u e (by rw [hs]; exact nfr)
        rw [fl3.2.1] at z
        cases z
    have na0 : X.s_0.heap.get? a = none := by
      cases e : X.s_0.heap.get? a with
      | none => rfl
      | some u =>
        obtain ⟨u', z⟩ := J.base.there a u e (by rw [hex]; exact fun z => nomatch z)
        rw [naI] at z
        cases z
    have ncA : ∀ x c, X.env.cells.lookup x = some c → c ≠ a := fun x c e z => by
      obtain ⟨v, o, ho, _⟩ := J.cell x c e
      rw [z, naI] at ho
      cases ho
    have npA : ∀ p ∈ X.pn ++ pins, p.1 ≠ a := fun p hp z => by
      obtain ⟨g, _⟩ := J.pin p hp
      rw [z, naI] at g
      cases g
    have S3 := J3.suite he3 hd3 na nL nF
    refine wpAny_handleBy_cons (codeAny_handlers_test ?_) (by intro q; cases q)
    have LT : PySem.W.Looks (model X.prog X.w) h3 (typeOf (.ref a)) cls := fun A Q E s k q => wpAny_typeOf_ref (k _ _ he3) (by rw [hz3.1]; exact q)
    have LM := PySem.W.exm_one (M := model X.prog X.w) (J3.kIn) LT hb1
    have test : ∀ {Q : Value → Shared → Prop} {E : Value → Shared → Prop}, Q c { s' with heap := h3 } → wpAny (model X.prog X.w) (X.A.mark (some (.ref a))) (eval (.Name x np) X.env) Q E { s' with heap := h3 } := fun {Q E} q => by
      obtain ⟨hg, hdbg, hm | ⟨hm, hv, hnn⟩⟩ := hc
      · exact ld_glob (X := X.suite a ((a, oe3) :: (X.pn ++ pins))) S3 hg hm q hdbg
      · exact ld_blt (X := X.suite a ((a, oe3) :: (X.pn ++ pins))) S3 hg hm hv q hnn hdbg
    refine test (LM.here ?_)
    cases b with
    | true =>
      refine codeAny_handlers_suite_as ?_
      refine HandSPX.lands_againZ fl3 fun h4 fl4 up4 => ?_
      have J4 : Inv X pins σ' H' { s' with heap := h4 } := J.landed nb fl4.1 ((up.trans up3).trans up4) os ag
      obtain ⟨oe4, vs4, he4, hz4, hd4⟩ := fl4.there
      have T4 : Inv X pins σ' (upd H' a (ExTk a cls d)) { s' with heap := h4 } := J4.track na na0 nL ncA npA (exTk_ok he4 hz4 hd4)
      have S4 := T4.suiteT a
      refine store_ok (X := X.suiteT a (X.pn ++ pins)) (v := .ref a) S4 hN hi hloc rfl (fun s5 S5 => ?_) (.inr hln)
      refine wpAny_mono ((hsu a (X.pn ++ pins)).run [] s5 _ _ _ S5 (hyes rfl a na)) (fun f s6 hsp => ?_) (fun _ _ z => False.elim z)
      have end_ : ∀ {σ6 : St} {H6 : Hp} {Q : Shared → Prop}, Inv (X.suiteT a (X.pn ++ pins)) [] σ6 H6 s6 → (∀ s7, Inv X pins (σ6.set i none) H6 s7 → Q s7) →
          wpAny (model X.prog X.w) X.A (do bindName X.env n .none; unbindBehindTheSuite X.env n pos') (fun _ s7 => Q s7) X.xe s6 := fun {σ6 H6 Q} S6 hq => gone_ok (S6.unsuiteT ok) hN hi hln hq
      cases f with
      | next =>
        obtain ⟨σ6, H6, S6, q6⟩ := hsp
        exact end_ S6 fun s7 J7 => ⟨_, _, J7, q6⟩
      | brk =>
        obtain ⟨σ6, H6, S6, q6⟩ := hsp
        exact end_ S6 fun s7 J7 => ⟨_, _, J7, q6⟩
      | cont =>
        obtain ⟨σ6, H6, S6, q6⟩ := hsp
        exact end_ S6 fun s7 J7 => ⟨_, _, J7, q6⟩
      | ret u =>
        obtain ⟨v6, σ6, H6, S6, r6, q6⟩ := hsp
        exact end_ S6 fun s7 J7 => ⟨_, _, _, J7, r6, q6⟩
    | false =>
      show wpAny _ X.A (handleBy (.ref a) X.env []) _ _ _
      refine wpAny_handleBy_nil ?_
      obtain ⟨k1, k2, k3, oe, vs, T, oT, ts', he, hz, hd, h1, hr⟩ := id fl3
      unfold PySem.passOn
      refine wpAny_bind (wpAny_field he hd h1 ?_)
      rw [if_neg (show ¬ ((Value.ref T == Value.none) = true) from by simp)]
      have fin : wpAny (model X.prog X.w) X.A (setFlight (.ref a) X.env.frame) (fun _ s4 => wpAny (model X.prog X.w) X.A (throw (.ref a) : Sem Flow) (SP X pins D) X.xe s4) X.xe { s' with heap := h3 } := by
        rw [hf]
        refine HandSPX.setFlight_upZ fl3 fun h4 hh4 up4 => wpAny_throw (tk _ _ ?_)
        exact ⟨a, B, sI, pins, σ', H', cls, d, rfl, J, nb, (up.trans up3).trans up4, .inr (.inr (by rw [hs]; exact hh4)), na, os, ag, hno rfl⟩
      first
        | exact wpAny_bind (wpAny_pure (wpAny_bind fin))
        | exact wpAny_bind fin
  · cases f with
    | next =>
      obtain ⟨σ', H', J', q⟩ := hsp
      exact wpAny_execs_nil ⟨σ', H', J'.ofTry ok, q⟩
    | brk =>
      obtain ⟨σ', H', J', q⟩ := hsp
      exact ⟨σ', H', J'.ofTry ok, q⟩
    | cont =>
      obtain ⟨σ', H', J', q⟩ := hsp
      exact ⟨σ', H', J'.ofTry ok, q⟩
    | ret u =>
      obtain ⟨v, σ', H', J', r, q⟩ := hsp
      exact ⟨v, σ', H', J'.ofTry ok, r, q⟩
end
end L2

namespace Fx
open PySem PySem.Spec PyProof.Rows L2 Evl Lk

/-! ### defs that may raise, called -/
structure CalX (P : Program) (w : World) (K : PySem.W.Frag) (mg : Str → Option Value) (base : Heap) (k : Nat) (x : Str) (sp : Sp) : Prop where
  ex : ∃ (f : Addr) (fd : FuncData) (ps : List Str), FnOk P w K mg base (L2.CX P w) k f fd ps sp ∧ mg x = some (.ref f) ∧ PySem.W.keepIn K (.ref f) = true ∧ Binds K fd ps []
structure CalKX (P : Program) (w : World) (K : PySem.W.Frag) (mg : Str → Option Value) (base : Heap) (k : Nat) (x : Str) (sp : Sp) (ks : List Str) : Prop where
  ex : ∃ (f : Addr) (fd : FuncData), FnOk P w K mg base (L2.CX P w) k f fd ks sp ∧ mg x = some (.ref f) ∧ PySem.W.keepIn K (.ref f) = true ∧
    ∀ (s : Shared) (ws : List Value), ws.length = ks.length → BindsTo s fd ⟨[], ks.zip ws⟩ (ks.zip ws)
section
variable {P : Program} {w : World} {K : PySem.W.Frag} {mg : Str → Option Value} {base : Heap} {x : Str} {st : Stmt} {ps : List Str} {k : Nat} {sp : Sp} {f : Addr} {fd : FuncData} {c : Addr}
theorem fnok_x (F : FnOk P w K mg base CX0 k f fd ps sp) : FnOk P w K mg base (L2.CX P w) k f fd ps sp :=
  ⟨F.len, fun A outer s H args us vs Q E hr he hb hv hs => codeAny_mono (F.run A outer s H args us vs Q E hr he hb hv hs) fun r s' hq => by
    cases r with
    | error e => exact False.elim hq
    | ok fl => cases fl <;> exact hq⟩
theorem ofX (A : At K mg x st ps) (h : ∀ f fd, Fun K x x st f fd → FnOk P w K mg base (L2.CX P w) k f fd ps sp) : CalX P w K mg base k x sp := by
  obtain ⟨f, fd, F1, g, b⟩ := A.ex
  exact ⟨⟨f, fd, ps, h f fd F1, g, F1.kp, b⟩⟩
theorem ofCX (A : AtC K mg x st ps c) (h : ∀ f fd, Fun K x x st f fd → fd.code = .ref c → FnOk P w K mg base (L2.CX P w) k f fd ps sp) : CalX P w K mg base k x sp := by
  obtain ⟨f, fd, F1, g, b, e⟩ := A.ex
  exact ⟨⟨f, fd, ps, h f fd F1 e, g, F1.kp, b⟩⟩
theorem ofKX (A : AtK K mg x st ps) (h : ∀ f fd, Fun K x x st f fd → FnOk P w K mg base (L2.CX P w) k f fd ps sp) : CalKX P w K mg base k x sp ps := by
  obtain ⟨f, fd, F1, g, b⟩ := A.ex
  exact ⟨⟨f, fd, h f fd F1, g, F1.kp, b⟩⟩
end

def wCallX (xw : Xv → Env → Prop) (W : WDX) (wa : WA) : WE := fun env Q => wa env fun ags e => ∃ as, resA ags e = some as ∧ agOk ags = true ∧
  W as (fun r as' => as'.length = as.length ∧ Q r (wbGo ags as' 0 e)) fun x as' => as'.length = as.length ∧ xw x (wbGo ags as' 0 e)
def MonoDX (W : WDX) : Prop := ∀ as (Q Q' : Sl → List Sl → Prop) (B B' : Xv → List Sl → Prop), (∀ r as', Q r as' → Q' r as') → (∀ x as', B x as' → B' x as') → W as Q B → W as Q' B'
section
variable {X : Cx} {G : Gx} {e : Expr} {es : List Expr} {wa : WA} {x : Str} {k j : Nat} {W : WDX} {tabs : List Addr} {p pos : Pos}
theorem mono_callX {xw : Xv → Env → Prop} (mw : MonoDX W) (ma : MonoA wa) : MonoE (wCallX xw W wa) := fun env Q Q' i q => ma _ _ _ (fun ags e1 ⟨as, h1, h2, h3⟩ => ⟨as, h1, h2, mw _ _ _ _ _ (fun r as' ⟨l, q⟩ => ⟨l, i _ _ q⟩) (fun _ _ q => q) h3⟩) q
/-- what a call makes of its arguments, whichever way they come -/
theorem callX_core {σ : L2.St} {H : Hp} {Q : VK} {T : Addr → Prop} {env : Env} {F : Nat → List Addr} (r : RE G T H σ env F) (mw : MonoDX W)  {ags : List Ag} {e1 : Env} {as : List Sl} (h1 : resA ags e1 = some as) (h2 : agOk ags = true)
    (h3 : W as (fun r as' => as'.length = as.length ∧ (fun r env' => ∀ v T' H' F' fr, Att G σ T H env F T' H' env' F' → Res G T H env F T' H' env' F' r v fr → Q v H') r (wbGo ags as' 0 e1)) fun x as' => as'.length = as.length ∧ G.xw x (wbGo ags as' 0 e1))
    {vs : List V} {T1 : Addr → Prop} {H1 : Hp} {F1 Fa : Nat → List Addr} (a1 : Att G σ T H env F T1 H1 e1 F1) (z1 : ArgR G σ T H env F T1 H1 e1 F1 ags vs Fa) : spX G.K G.tabs W vs H1 Q (L2.WE (wishX G) σ) := by
  refine ⟨T1, as, argF ags Fa F1, call_args a1.re z1 h1 h2, mw _ _ _ _ _ (fun rs as' ⟨hl, q⟩ v T' H' F' fr r' hv zs => ?_) (fun y as' ⟨hl, q⟩ cls d T' H' F' r' hv hy => ?_) h3⟩
  · obtain ⟨F2, a2, z2⟩ := call_att r a1 z1 h1 h2 hl r' hv zs
    exact q v T' H' F2 fr a2 z2
  · obtain ⟨F2, a2, _⟩ := call_att r a1 z1 h1 h2 hl r' hv (rs := .f .non) (v := .non) (fr := []) ⟨⟨.non, rfl⟩, nofun, nofun, nofun⟩
    exact ⟨T', _, F2, y, a2.re, hy, q⟩
theorem ge_callX (c : CalX X.prog X.w X.K X.mg X.base k x (spX X.K tabs W)) (tk : GTk X G) (hr : Room j X.A) (hk : k ≤ j) (hg : Gl X x) (hK : X.K = G.K) (ht : tabs = G.tabs) (mw : MonoDX W) (ha : GA X G (e :: es) wa)
    (hdb : (x == ("__debug__" : Str)) = false := by decide) (he : starEach (e :: es) X.env = (false, eval e X.env) :: starEach es X.env := by rfl) (hpl : (backTo pos (starEach es X.env)).any (·.1) = false := by rfl) :
    GE X G (.Call (.Name x p) (e :: es) [] pos) (wCallX G.xw W wa) := by
  subst ht
  obtain ⟨f, fd, ps, F, hm, kp, b⟩ := c.ex
  refine ⟨pe_imp (pe_callS F (hr.mono hk) hg hm kp b (fun σ => passAt tk σ) ha.pa hdb he hpl) fun σ H Q ⟨T, env, F, r, q⟩ => ⟨T, env, F, r, ha.mono _ _ _ (fun ags e1 ⟨as, h1, h2, h3⟩ vs T1 H1 F1 Fa a1 z1 => ?_) q⟩, mono_callX mw ha.mono⟩
  show spX X.K G.tabs W vs H1 Q (L2.WE (wishX G) σ)
  rw [hK]
  exact callX_core r mw h1 h2 h3 a1 z1
/-- f(k=e, ..), all by keywords -/
theorem pe_ckX {kws : List Keyword} {ks : List Str} {tk : TA} {sp : Sp} {E : L2.St → XK} (c : CalKX X.prog X.w X.K X.mg X.base k x sp ks) (hx : ∀ σ, PassesAt (L2.CX X.prog X.w) X σ (E σ)) (hr : Room j X.A) (hk : k ≤ j) (hg : Gl X x) (hkw : PK X kws tk)
    (hall : (backToKw pos (keywordEach kws X.env)).all (·.1.isSome) = true := by rfl) (hks : (backToKw pos (keywordEach kws X.env)).filterMap (·.1) = ks := by rfl) (hdb : (x == ("__debug__" : Str)) = false := by decide)
    (hpl : ((backTo pos (starEach [] X.env)).any (·.1) || (backToKw pos (keywordEach kws X.env)).any (·.1.isNone)) = false := by rfl) :
    PE X (.Call (.Name x p) [] kws pos) (fun σ H Q => tk σ H fun zs H2 => zs.length = ks.length ∧ sp zs H2 Q (E σ)) := by
  obtain ⟨f, fd, F, hm, kp, b⟩ := c.ex
  refine ⟨fun pins s σ H Q I h => ?_⟩
  refine wpAny_Call_Name_kw (ld_glob I hg hm ?_ hdb)
  refine PySem.W.callWith_KW0 (h₀ := X.base) I.ok.mod.kin kp hall ?_ hpl
  refine thn (hkw.run pos pins s σ H _ I h) fun ws s2 ⟨zs, H2, I2, rz, l2, q2⟩ => ⟨I2.kIn, ?_⟩
  rw [hks]
  refine wpAny_call (codeAny_mono (F.run X.A X.stack s2 H2 ⟨[], ks.zip ws⟩ ws zs Q (E σ) (hr.mono hk) I2.env0 (b s2 ws (rz.length.symm.trans l2)) rz q2) fun r s' hq => ?_)
  cases r with
  | error e => exact hx σ pins H2 s2 e s' I2 hq
  | ok fl =>
    cases fl with
    | ret u => exact I2.after hq
    | next => exact False.elim hq
    | brk => exact False.elim hq
    | cont => exact False.elim hq
theorem ge_ckX {kws : List Keyword} {ks : List Str} (c : CalKX X.prog X.w X.K X.mg X.base k x (spX X.K tabs W) ks) (tk : GTk X G) (hr : Room j X.A) (hk : k ≤ j) (hg : Gl X x) (hK : X.K = G.K) (ht : tabs = G.tabs) (mw : MonoDX W)
    (hlen : ∀ as Q B, W as Q B → as.length = ks.length) (ha : GK X G kws wa)
    (hall : (backToKw pos (keywordEach kws X.env)).all (·.1.isSome) = true := by rfl) (hks : (backToKw pos (keywordEach kws X.env)).filterMap (·.1) = ks := by rfl) (hdb : (x == ("__debug__" : Str)) = false := by decide)
    (hpl : ((backTo pos (starEach [] X.env)).any (·.1) || (backToKw pos (keywordEach kws X.env)).any (·.1.isNone)) = false := by rfl) :
    GE X G (.Call (.Name x p) [] kws pos) (wCallX G.xw W wa) := by
  subst ht
  refine ⟨pe_imp (pe_ckX c (fun σ => passAt tk σ) hr hk hg ha.pk hall hks hdb hpl) fun σ H Q ⟨T, env, F, r, q⟩ => ⟨T, env, F, r, ha.mono _ _ _ (fun ags e1 ⟨as, h1, h2, h3⟩ vs T1 H1 F1 Fa a1 z1 => ⟨?_, ?_⟩) q⟩, mono_callX mw ha.mono⟩
  · rw [z1.len, ← hlen as _ _ h3]
    exact (resA_get h1).1.symm
  · show spX X.K G.tabs W vs H1 Q (L2.WE (wishX G) σ)
    rw [hK]
    exact callX_core r mw h1 h2 h3 a1 z1
end

/-! ### raise -/
/-- an own exception class without an __init__ -/
structure OwnX (K : PySem.W.Frag) (mg : Str → Option Value) (x : Str) (C : Addr) : Prop where
  g : mg x = some (.ref C)
  e : PySem.W.excIn K C [.type "ValueError", .type "Exception", .type "BaseException", .type "object"] "ValueError.__new__" = true
  k : PySem.W.keepIn K (.ref C) = true
  b : PySem.W.subIn K (.ref C) (.type "BaseException") = some true
  t : PySem.W.typeIn K (.ref C) = some (.type "type")
def wRaise (xw : Xv → Env → Prop) (C : Addr) : WS := fun _ env => xw ⟨C, none⟩ env
section
variable {X : Cx} {G : Gx} {x : Str} {C : Addr} {p p2 pos pos2 : Pos} {m : Str} {j : Nat}
theorem gs_raise (O : OwnX X.K X.mg x C) (tk : GTk X G) (hc : X.calm = true) (hg : Gl X x) (hdb : (x == ("__debug__" : Str)) = false := by decide) :
    GS X G (.Raise (some (.Call (.Name x p) [.Constant (.str m) j p2] [] pos)) none pos2) (wRaise G.xw C) := by
  refine ⟨ps_imp (ps_raise hc tk (pmk_own PySem.F.excBase_ValueError O.e O.g O.k (raises_own O.b O.t) hg hdb)) fun D σ H ⟨T, env, F, r, q⟩ => ?_, fun _ _ _ _ q => q⟩
  exact ⟨T, env, F, ⟨C, none⟩, r, ⟨rfl, rfl⟩, q⟩
end

/-! ### try -/
/-- behind a suite its name is gone -/
def WEnds.at (D : WEnds) (i : Nat) : WEnds := { nx := fun e' => D.nx (e'.set i none), rt := D.rt, bk := fun e' => D.bk (e'.set i none), ct := fun e' => D.ct (e'.set i none) }
theorem WEnds.Le.at {D D' : WEnds} (l : D.Le D') (i : Nat) : (D.at i).Le (D'.at i) := ⟨fun e q => l.nx _ q, l.rt, fun e q => l.bk _ q, fun e q => l.ct _ q⟩
/-- except c as the name of slot i: suite -/
def wTry (K : PySem.W.Frag) (c : Value) (i : Nat) (tb : (Xv → Env → Prop) → WS) (ts : WS) (xw : Xv → Env → Prop) : WS := fun D env => ∃ (xw' : Xv → Env → Prop) (D0 : WEnds), D0.Le D ∧
  (∀ y e, xw' y e → ∃ b, PySem.W.exmOne K (.ref y.C) c = some b ∧ (b = true → i < e.length ∧ ts (D.at i) (e.set i (some (.f (.ty (.exc y.C y.row)))))) ∧ (b = false → xw y e)) ∧ tb xw' D0 env
/-- G, with another wish -/
def Gx.wth (G : Gx) (xw : Xv → Env → Prop) (hx : Hp) : Gx := { G with xw := xw, hx := hx }
section
variable {G : Gx} {xw : Xv → Env → Prop} {h0 : Hp} {T : Addr → Prop} {H : Hp} {σ : L2.St} {env : Env} {F : Nat → List Addr}
theorem RE.wth (r : RE G T H σ env F) (e : Ex h0 (hid T H)) : RE (G.wth xw h0) T H σ env F := ⟨r.trk, r.tab, r.slot, r.dis, r.st, r.ow, r.t0, r.pin, r.len, e⟩
theorem RE.ofWth (r : RE (G.wth xw h0) T H σ env F) (e : Ex G.hx (hid T H)) : RE G T H σ env F := ⟨r.trk, r.tab, r.slot, r.dis, r.st, r.ow, r.t0, r.pin, r.len, e⟩
/-- one slot forgotten, in both -/
theorem RE.del (r : RE G T H σ env F) (i : Nat) (hp : G.prot i = false) : RE G T H (σ.set i none) (env.set i none) F := by
  have q := r.drop i
  refine ⟨q.trk, q.tab, fun j s h => ?_, q.dis, q.st, q.ow, q.t0, fun j hj => ?_, by rw [List.length_set, List.length_set]; exact r.len, q.hx⟩
  · rcases set_get h with ⟨_, e⟩ | ⟨e, _⟩
    · cases e
    · obtain ⟨v, h1, h2⟩ := q.slot j s h
      exact ⟨v, by rw [List.getElem?_set_ne (Ne.symm e)]; exact h1, h2⟩
  · have n : i ≠ j := fun e => by rw [← e, hp] at hj; cases hj
    rw [List.getElem?_set_ne n]
    exact r.pin j hj
theorem le_trans {D D' D'' : WEnds} (a : D.Le D') (b : D'.Le D'') : D.Le D'' := ⟨fun e q => b.nx e (a.nx e q), fun r e q => b.rt r e (a.rt r e q), fun e q => b.bk e (a.bk e q), fun e q => b.ct e (a.ct e q)⟩
theorem le_refl {D : WEnds} : D.Le D := ⟨fun _ q => q, fun _ _ q => q, fun _ q => q, fun _ q => q⟩
theorem resS_wth {s : Sl} {v : V} {fr : List Addr} (z : ResS (G.wth xw h0) T H env F s v fr) : ResS G T H env F s v fr := ⟨z.rel, z.nv, z.dis, z.from_⟩
end
section
variable {X : Cx} {G : Gx} {x n : Str} {c : Value} {i : Nat} {body suite : List Stmt} {b₀ : Stmt} {np pos pos' : Pos} {tb : (Xv → Env → Prop) → WS} {ts : WS}
theorem gs_try (tk : GTk X G) (hs : X.stack = X.env :: X.outer) (hf : X.env.frame = some X.env.locals) (hex : X.ex = []) (hN : X.N.Nodup) (hi : X.N[i]? = some n) (hln : X.env.kindOf n = some .local) (hc : Names X x c) (hK : X.K = G.K) (hp : G.prot i = false)
    (hb : ∀ (xw : Xv → Env → Prop) (h0 : Hp) (pn : List (Addr × Obj)) (xe : Value → Shared → Prop), GTk (X.tr pn xe) (G.wth xw h0) → PassesOwn (model X.prog X.w) X.A X.env xe → GSs (X.tr pn xe) (G.wth xw h0) body (tb xw))
    (hsu : ∀ (a : Addr) (pn : List (Addr × Obj)), GSs (X.suiteT a pn) G (b₀ :: suite) ts) :
    GS X G (.Try body [.ExceptHandler (some (.Name x np)) (some n) (b₀ :: suite) pos'] [] [] pos) (wTry G.K c i tb ts G.xw) := by
  have mono : MonoS (wTry G.K c i tb ts G.xw) := fun D D' env l ⟨xw', D0, l0, h, q⟩ => by
    refine ⟨xw', D0, le_trans l0 l, fun y e hy => ?_, q⟩
    obtain ⟨b, e1, e2, e3⟩ := h y e hy
    refine ⟨b, e1, fun hb => ?_, e3⟩
    obtain ⟨g1, g2⟩ := e2 hb
    exact ⟨g1, (hsu 0 []).mono _ _ _ (l.at i) g2⟩
  refine ⟨ps_imp (ps_try_asT (Wout := wishX G) (tb := fun W D σ H => ∃ (xw : Xv → Env → Prop) (h0 : Hp) (T : Addr → Prop) (env : Env) (F : Nat → List Addr) (D0 : WEnds), RE (G.wth xw h0) T H σ env F ∧ (∀ cls d σ' H', wishX (G.wth xw h0) cls d σ' H' → W cls d σ' H') ∧ D0.Le (toD (G.wth xw h0) (hid T H) D) ∧ tb xw D0 env)
    (ts := tWS G ts) hs hf hex hN hi hln hc tk (fun W pn xe tW' hpass => ⟨fun pins s σ H D I ⟨xw, h0, T, env, F, D0, r, hl, le, q⟩ => ?_⟩) fun a pn => (hsu a pn).pss) fun D σ H ⟨T, env, F, r, xw', D0, le, hcond, q⟩ => ?_, mono⟩
  · have d := hb xw h0 pn xe (tW'.imp hl) hpass
    exact d.pss.run pins s σ H D I ⟨T, env, F, r, d.mono _ _ _ le q⟩
  · refine ⟨xw', hid T H, T, env, F, D0, r.wth (.refl _), fun cls d σ' H' ⟨T', e', F', y, r', hy, hq⟩ => ?_, le_trans le ⟨fun e q σ1 T1 H1 F1 r1 x1 => ?_, fun s e q v σ1 T1 H1 F1 fr r1 z1 => ?_, fun e q σ1 T1 H1 F1 r1 x1 => ?_, fun e q σ1 T1 H1 F1 r1 x1 => ?_⟩, q⟩
    · have r2 : RE G T' H' σ' e' F' := r'.ofWth (r.hx.trans r'.hx)
      obtain ⟨b, e1, e2, e3⟩ := hcond y e' hq
      obtain ⟨hcl, hrow⟩ := hy
      subst hcl
      refine ⟨b, by rw [hK]; exact e1, fun hb a na => ?_, fun hb => ⟨T', e', F', y, r2, ⟨rfl, hrow⟩, e3 hb⟩⟩
      obtain ⟨hlt, g⟩ := e2 hb
      have ex : Ex H' (upd H' a (ExTk a (.ref y.C) d)) := Ex.new na
      have r3 := r2.ex ex
      have fz : Fz G.K (hid T' (upd H' a (ExTk a (.ref y.C) d))) (.ref a) (.ty (.exc y.C y.row)) := .exc (hid_of upd_same (nT r2.trk na)) (RowR.ex (hid_mono ex) hrow)
      have r4 := r3.store i (by rw [← r3.len]; exact hlt) hp (fun o => nofun) (r := .f (.ty (.exc y.C y.row))) (v := .ref a) (fr := []) ⟨fz, rfl⟩ (fun o e => nomatch e) (fun o e => nomatch e)
      have x0 : Ex (hid T H) (hid T' (upd H' a (ExTk a (.ref y.C) d))) := r'.hx.trans (hid_mono ex)
      refine ⟨T', _, _, r4, (hsu a []).mono _ _ _ ⟨fun e q σ6 T6 H6 F6 r6 x6 => ?_, fun s e q v σ6 T6 H6 F6 fr r6 z6 => ?_, fun e q σ6 T6 H6 F6 r6 x6 => ?_, fun e q σ6 T6 H6 F6 r6 x6 => ?_⟩ g⟩
      · exact q _ T6 H6 F6 (r6.del i hp) (x0.trans x6)
      · exact q v σ6 T6 H6 F6 fr r6 z6
      · exact q _ T6 H6 F6 (r6.del i hp) (x0.trans x6)
      · exact q _ T6 H6 F6 (r6.del i hp) (x0.trans x6)
    · exact q σ1 T1 H1 F1 (r1.ofWth (r.hx.trans x1)) x1
    · exact q v σ1 T1 H1 F1 fr (r1.ofWth (r.hx.trans r1.hx)) (resS_wth z1)
    · exact q σ1 T1 H1 F1 (r1.ofWth (r.hx.trans x1)) x1
    · exact q σ1 T1 H1 F1 (r1.ofWth (r.hx.trans x1)) x1
end
end Fx

namespace PySem.W
open PySem
section
variable {prog : Program} {w : World} {A : Around} {E : Value → Shared → Prop} {s : Shared} {K : Frag} {x D : Addr} {ox : Obj} {od : Option Obj}
theorem findObj_dataO {C : Addr} {name : Str} {a g : Value} (hc : (clsIn K C).isSome = true) (ha : findIn K (.ref C) name = some (some a)) (hg : specialIn K a "__get__" = some (some g)) (ht : takesIn K a = some true) : findObj K C od name = some (.bind g a) := by
  obtain ⟨cd, hc⟩ := Option.isSome_iff_exists.mp hc
  unfold findObj
  rw [hc, Option.bind_some, ha, Option.bind_some]
  simp [hg, ht]
theorem kin_classO {Q : Option Value → Shared → Prop} (hga : findIn K (.ref D) "__getattribute__" = some (some (.builtin "BaseException.__getattribute__"))) (hgt : findIn K (.ref D) "__getattr__" = some none) (hsub : subIn K (.ref D) (.type "BaseException") = some true)
    (hdct : hasDictIn K D = true) (ha : findIn K (.ref D) "__class__" = some (some (.builtin "object.__class__")))
    (hn : specialIn K (.builtin "object.__class__") "__get__" = some (some (.builtin "getset_descriptor.__get__"))) (htk : takesIn K (.builtin "object.__class__") = some true) (hm : mroIn K D (.type "object") = some true)
    (X : K.In s.heap) (I : InstAt s.heap x ox D od) (h : Q (some (.ref D)) { s with toks := s.toks + 1 }) : wpAny (model prog w) A (getAttr? (.ref x) "__class__") Q E s := by
  have hf : findObj K D od "__class__" = some (.bind (.builtin "getset_descriptor.__get__") (.builtin "object.__class__")) := findObj_dataO (by obtain ⟨cd, hc, _⟩ := any_some hdct; rw [hc]; rfl) ha hn htk
  obtain ⟨hp, g, d, t, os⟩ := s
  have L0 := I.type (M := model prog w)
  have L1 := looks_findIn (M := model prog w) X hga
  have L2 := looks_findIn (M := model prog w) X hgt
  have L3 := looks_find (M := model prog w) X I hf
  have sub : Looks (model prog w) hp (isInstance (.ref x) (.type "BaseException")) true := L0.andThen (looks_subIn X hsub)
  have hx0 : (false && onTheHeap (Value.builtin "BaseException.__getattribute__")) = false := rfl
  have hx2 : (Value.builtin "BaseException.__getattribute__" == Value.builtin "object.__getattribute__") = false := by decide +kernel
  have hx1 : (onTheHeap (Value.ref D) && Value.builtin "BaseException.__getattribute__" == Value.builtin "object.__getattribute__") = false := by rw [hx2]; rfl
  unfold getAttr? getAttrBy? getAttrBy
  refine wpAny_bind (wpAny_mkText (wpAny_bind (wpAny_attempt (wpAny_holding (wpAny_bind (L0.at (wpAny_bind (L1.at ?_))))))))
  show wpAny _ _ (if (onTheHeap (Value.ref D) && Value.builtin "BaseException.__getattribute__" == Value.builtin "object.__getattribute__") = true then _ else _) _ _ _
  rw [hx1, if_neg Bool.false_ne_true]
  unfold getAttrByItsOwn hookBefore
  refine wpAny_bind ?_
  rw [if_pos (show onTheHeap (Value.ref D) = true from rfl)]
  refine L2.at ?_
  refine wpAny_bind (wpAny_attempt (wpAny_holding ?_))
  unfold callGetattribute
  rw [hx0, if_neg Bool.false_ne_true]
  unfold boundAndCalled
  rw [PySem.F.excAttr_ValueError.ga.bind (.ref x)]
  refine wpAny_bind (wpAny_pure ?_)
  show wpAny _ _ (call (.builtin "BaseException.__getattribute__") [.ref x, .str "__class__" t]) _ _ _
  refine wpAny_call (codeAny_call_builtin PySem.F.excAttr_ValueError.ga.plain PySem.F.entry_bexc_ga ?_)
  refine @check_slot (model prog w) _ _ ⟨hp, g, d, t + 1, os⟩ "BaseException.__getattribute__" "BaseException" "__getattribute__" (.ref x) [.str "__class__" t] [] _ (by decide +kernel) (by decide +kernel) sub (PySem.F.args_bexc_ga (.ref x) (.str "__class__" t)) ?_
  unfold Builtin.«object.__getattribute__»
  refine wpAny_bind (wpAny_of_eq (a := ((Value.ref x : Value), [Value.str "__class__" t])) (by first | rfl | (simp only [slotArgs]; rfl)) ?_)
  refine wpAny_bind (wpAny_pure (wpAny_bind (L0.at (wpAny_bind (L3.at ?_)))))
  show wpAny _ _ (holding [Value.builtin "object.__class__"] (call (.builtin "getset_descriptor.__get__") [.builtin "object.__class__", .ref x, .ref D]) >>= ret) _ _ _
  refine wpAny_bind (wpAny_holding (wpAny_call (class_get (s := ⟨hp, g, d, t + 1, os⟩) (ox := ox) (od := od) X I hm ?_)))
  refine wpAny_pure ?_
  show wpAny _ _ (handedOut (.ref D)) _ _ _
  rw [handedOut_of (v := .ref D) rfl]
  first
    | exact wpAny_pure (wpAny_pure h)
    | exact wpAny_pure h
    | exact wpAny_pure (wpAny_bind (wpAny_pure (wpAny_pure h)))
theorem kitx_excO (hga : findIn K (.ref D) "__getattribute__" = some (some (.builtin "BaseException.__getattribute__"))) (hgt : findIn K (.ref D) "__getattr__" = some none) (hsub : subIn K (.ref D) (.type "BaseException") = some true) (hdct : hasDictIn K D = true) (ha : findIn K (.ref D) "__class__" = some (some (.builtin "object.__class__")))
    (hn : specialIn K (.builtin "object.__class__") "__get__" = some (some (.builtin "getset_descriptor.__get__"))) (htk : takesIn K (.builtin "object.__class__") = some true) (hm : mroIn K D (.type "object") = some true) :
    KitX K (.ref x) (.ref D) (fun h => InstAt h x ox D od) where
  ty := fun _ _ _ I => I.type
  it := fun _ _ X _ => by
    obtain ⟨cdD, hcD, _⟩ := any_some hdct
    unfold clsIn at hcD
    split at hcD
    · rename_i c' d' cd' sl' ho
      intro A' Q' E' s' k q
      unfold isType loadHead
      exact wpAny_bind (wpAny_loadPart (k _ _ (X _ _ ho)) (wpAny_pure q))
    · cases hcD
  ne := fun h tp dd its n sl X htp => by
    obtain ⟨cdD, hcD, _⟩ := any_some hdct
    refine Bool.eq_false_iff.mpr fun q => ?_
    have e : D = tp := Value.ref.inj (beq_iff_eq.mp q)
    subst e
    unfold clsIn at hcD
    split at hcD
    · rename_i c' d' cd' sl' ho
      have z := (X _ _ ho).symm.trans htp
      cases z
    · cases hcD
  ca := fun X I k => kin_classO hga hgt hsub hdct ha hn htk hm X I k
end
end PySem.W
namespace Fx
open PySem PySem.Spec PyProof.Rows L2 Evl Lk
/-! ### exceptions as values -/
section
variable {X : Cx} {G : Gx} {pins : List (Addr × Obj)} {σ : L2.St} {H : Hp} {s : Shared} {a C : Addr} {d : Option Addr} {row : Option Int}
/-- an exception's object, as it stands -/
theorem exc_at (I : Inv X pins σ H s) (h : H a = some (ExT a C d)) : ∃ oe vs, s.heap.get? a = some oe ∧ oe.cls = .ref C ∧ oe.dict = d ∧ oe.data = .fields vs ∧ PySem.W.notCls oe = true := by
  obtain ⟨⟨oe, vs, h1, h2, h3, h4⟩, _, _⟩ := I.hok a _ h
  exact ⟨oe, vs, h1, h2, h3, h4, by unfold PySem.W.notCls; rw [h4] <;> rfl⟩
theorem exc_inst (I : Inv X pins σ H s) (h : H a = some (ExT a C d)) (r : RowR H d row) : ∃ oe od, PySem.W.InstAt s.heap a oe C od := by
  obtain ⟨oe, vs, h1, h2, h3, h4, nc⟩ := exc_at I h
  cases row with
  | none =>
    have r : d = none := r
    subst r
    exact ⟨oe, none, h1, h2, nc, by rw [h3]; exact True.intro⟩
  | some n =>
    obtain ⟨dd, rfl, hx⟩ := r
    obtain ⟨mA, hns, hr⟩ := (I.hok dd _ hx : ObjOk X.prog X.w H s.heap dd (.xd [("row", .int n)]))
    obtain ⟨od, ho, hl⟩ := lookIn_ns hns
    exact ⟨oe, some od, h1, h2, nc, by rw [h3]; exact ho⟩
/-! isinstance -/
def tkV : Tk → Option Value
  | .bt n => some (.type n)
  | .cls C => some (.ref C)
  | .exc _ _ => none
def cIsE (K : PySem.W.Frag) : OpC
  | [.ty (.exc C _), .ty m], Q => ∃ c b, tkV m = some c ∧ ExcC K C ∧ PySem.W.kitOne K (.ref C) c = some b ∧ Q (.bl b)
  | [d, .ty m], Q => ∃ c b, tkV m = some c ∧ (∀ m, d ≠ .ty m) ∧ PySem.W.kitOne K (.type (tyN d)) c = some b ∧ Q (.bl b)
  | _, _ => False
theorem tkV_of {K : PySem.W.Frag} {T : Addr → Prop} {m : Tk} {v : V} {u : Value} {c : Value} (h : Cz K T H v (.ty m)) (r : RelV v u) (e : tkV m = some c) : u = c := by
  cases m with
  | bt n => cases h; cases e; exact r
  | cls C => cases h; cases e; exact r
  | exc C r => cases e
theorem cax_isE (hK : X.K = G.K := by rfl) : CaX X G (.builtin "isinstance") (cIsE X.K) := by
  refine ⟨fun pins s σ H xs us Q I rv ⟨T, ds, t, c, q⟩ => ?_, fun a Q Q' i q => ?_⟩
  · unfold cIsE at q
    split at q
    · obtain ⟨v, v2, rfl, c1, c2⟩ := cz2 c
      obtain ⟨c, b, e, hC, hb, q⟩ := q
      obtain ⟨u1, u2, rfl, r1, r2⟩ := vals2 rv
      obtain rfl := tkV_of c2 r2 e
      cases c1 with
      | exc h1 h2 =>
        cases r1
        obtain ⟨oe, od, J⟩ := exc_inst I (hid_some h1).1 (h2.ex hid_ex)
        exact PySem.W.kia_one (PySem.W.kitx_excO hC.hg hC.hk hC.hs hC.hd hC.ha hC.hn hC.ht hC.hm) I.kIn J hb (fun z => nomatch z) fun tk => ⟨.bl b, H, I.tok tk, rfl, q _ H (Ex.refl H) (.bl b)⟩
    · obtain ⟨v, v2, rfl, c1, c2⟩ := cz2 c
      obtain ⟨c, b, e, n, hb, q⟩ := q
      obtain ⟨u1, u2, rfl, r1, r2⟩ := vals2 rv
      obtain rfl := tkV_of c2 r2 e
      obtain ⟨P, Z, p, _, hx⟩ := kitD I (by rw [hK]; exact c1.fz) r1 n
      exact PySem.W.kia_one Z I.kIn p hb hx fun tk => ⟨.bl b, H, I.tok tk, rfl, q _ H (Ex.refl H) (.bl b)⟩
    · exact q.elim
  · unfold cIsE at q ⊢
    split at q
    · obtain ⟨c, b, h1, h2, h3, q⟩ := q
      exact ⟨c, b, h1, h2, h3, i _ q⟩
    · obtain ⟨c, b, h1, h2, h3, q⟩ := q
      exact ⟨c, b, h1, h2, h3, i _ q⟩
    · exact q.elim
/-- a class of the program by its name -/
theorem gp_cls {x : Str} {pos : Pos} (hm : X.mg x = some (.ref C)) (hg : Gl X x) (hd : (x == ("__debug__" : Str)) = false := by decide) : GP X G (.Name x pos) (wC (.ty (.cls C))) :=
  gp_glob (v := .ref C) (pe_glob hg hm rfl hd) fun _ => .cls C
/-! e.row -/
structure RowC (K : PySem.W.Frag) (C : Addr) : Prop where
  x : XfC K C
  no : PySem.W.findIn K (.ref C) "row" = some none
def wRow (K : PySem.W.Frag) (w : WE) : WE := fun env Q => w env fun r e => ∃ C n, r = .f (.ty (.exc C (some n))) ∧ RowC K C ∧ Q (.f (.int n)) e
theorem ge_row {e : Expr} {w : WE} {pos : Pos} (he : GE X G e w) (hK : X.K = G.K := by rfl) (hb : attributeBase e "row" X.env (eval e X.env) = eval e X.env := by rfl) : GE X G (.Attribute e "row" pos) (wRow G.K w) := by
  refine ⟨⟨fun pins s σ H Q I ⟨T, env, F, r, q⟩ => ?_⟩, fun env Q Q' i q => he.mono _ _ _ (fun r e ⟨C, n, h1, h2, q⟩ => ⟨C, n, h1, h2, i _ _ q⟩) q⟩
  have hR : tW G w σ H fun v H1 => ∃ C n T1 e1 F1, Att G σ T H env F T1 H1 e1 F1 ∧ Fz G.K (hid T1 H1) v (.ty (.exc C (some n))) ∧ RowC G.K C ∧ ∀ v T' H' F' fr, Att G σ T H env F T' H' e1 F' → Res G T H env F T' H' e1 F' (.f (.int n)) v fr → Q v H' :=
    ⟨T, env, F, r, he.mono _ _ _ (fun s1 e1 ⟨C, n, h1, h2, q⟩ v T1 H1 F1 fr a z => by subst h1; exact ⟨C, n, T1, e1, F1, a, z.rel.1, h2, q⟩) q⟩
  refine attr_of hb (thn (he.pe.run pins s σ H _ I hR) fun u s1 hh => ?_)
  obtain ⟨v, H1, I1, rv, C, n, T1, e1, F1, a, fz, T, q⟩ := hh
  cases fz with
  | exc h1 h2 =>
    cases rv
    obtain ⟨dd, rfl, hx⟩ := h2
    obtain ⟨oe, vs, g1, g2, g3, g4, nc⟩ := exc_at I1 (hid_some h1).1
    obtain ⟨mA, hns, hr⟩ := (I1.hok dd _ (hid_some hx).1 : ObjOk X.prog X.w H1 s1.heap dd (.xd [("row", .int n)]))
    obtain ⟨od, ho, hl⟩ := lookIn_ns hns
    have l : List.lookup ("row" : Str) [(("row" : Str), V.int n)] = some (.int n) := by simp [List.lookup]
    obtain ⟨u, hu, ru⟩ := RelO.some_of (v := V.int n) (o := mA "row") (by rw [← l]; exact hr "row")
    have J : PySem.W.InstAt s1.heap _ oe C (some od) := ⟨g1, g2, nc, by rw [g3]; exact ho⟩
    rw [← hK] at T
    refine HandSPX.exc_get I1.kIn J T.x.ga T.x.gg T.x.exC (PySem.W.findObj_own T.x.hdC T.no rfl (by rw [hl, hu])) (handed_of ru) ⟨.int n, H1, I1.tok _, ru, ?_⟩
    exact q (.int n) T1 H1 F1 [] a (res_f (.int n))
end
end Fx

/-! an own exception class whose __init__(self, row) says super().__init__(a text of row); self.row = row -/
namespace PySem
namespace RowX
open PySem.W PySem.Calls PyProof.Rows PySem.HandSPX
def iA (p1 p2 : Pos) : Arguments := { posonlyargs := [], args := [{ arg := "self", annotation := none, pos := p1 }, { arg := "row", annotation := none, pos := p2 }], vararg := none, kwonlyargs := [], kw_defaults := [], kwarg := none, defaults := [] }
def iB (m : Str) (p0 p1 p2 p3 p4 p5 p6 p7 p8 q1 q2 q3 q4 : Pos) : List Stmt :=
  [.Expr (.Call (.Attribute (.Call (.Name "super" p0) [] [] p1) "__init__" p2) [.JoinedStr [.Constant (.str m) 0 p5, .FormattedValue (.Name "row" p6) (-1) none p7] p8] [] p3) p4, .Assign [.Attribute (.Name "self" q1) "row" q2] (.Name "row" q3) q4]
def iS : Scope := { kind := .function, names := [(PySem.Str.ofString "self", .local), (PySem.Str.ofString "row", .local), (PySem.Str.ofString "__class__", .free), (PySem.Str.ofString "super", .globalImplicit)], isGenerator := false, isCoroutine := false, more := [] }
/-- what the written part says of the class, at C, and of its __init__, at fI -/
structure RowTxt (prog : Program) (K : Frag) (mg : Str → Option Value) (x : Str) (C : Addr) : Prop where
  gC : mg x = some (.ref C)
  cls : ∃ nm q N bs bm sn sub ab col dd k0 k1 k2 k3 k5, K.lookup C = some (excClassObj nm q C N bs bm true sn sub ab col dd k0 k1 k2 k3 k5 "ValueError.__new__") ∧ refsVE bm = true ∧ alongIn K "__init__" bm = some (some (.builtin "ValueError.__init__")) ∧ bs = bs
  sa : findIn K (.ref C) "__setattr__" = some (some (.builtin "object.__setattr__"))
  noN : findIn K (.ref C) "row" = some none
  kC : keepIn K (.ref C) = true
  exC : subIn K (.ref C) (.type "BaseException") = some true
  scC : subIn K (.ref C) (.ref C) = some true
  exV : subIn K (.ref C) (.type "ValueError") = some true
  tyC : typeIn K (.ref C) = some (.type "type")
  sup : nsIn K mainGlobals "super" = some none
  opq : nsIn K cStatics "thirdparty.any" = some none
  top : (prog.main.scope.names.lookup ("super" : Str)).isSome = false
  fn : ∃ (fI : Addr) (qn : Str) (m : Str) (oc : Value) (od : Option Addr) (doc pm : Value) (an : Option Addr) (cda cc : Addr) (ct : Value) (osl : Array (Option Value)) (p1 p2 r0 r1 r2 r3 r4 r5 r6 r7 r8 q1 q2 q3 q4 : Pos) (vs : Array Value) (file : Str) (tf : Tok) (ccl cl : Value) (cdd cld : Option Addr) (ccs csl : Array (Option Value)),
    findIn K (.ref C) "__init__" = some (some (.ref fI)) ∧ typeIn K (.ref fI) = some (.type "function") ∧
    K.lookup fI = some ⟨oc, od, .func (ksFn "__init__" qn (iA p1 p2) (iB m r0 r1 r2 r3 r4 r5 r6 r7 r8 q1 q2 q3 q4) iS .none .none doc pm an (.ref cda) ct cc), osl⟩ ∧ codeIn K (.ref cda) qn = true ∧
    K.lookup cda = some ⟨ccl, cdd, .fields vs, ccs⟩ ∧ vs[2]? = some (.str file tf) ∧ ((prog.main.file : Str) == file) = true ∧ K.lookup cc = some ⟨cl, cld, .cell (some (.ref C)), csl⟩ ∧ m.length ≤ 1000 ∧ (r2.endLine == r3.line) = true
theorem eval_meth {o a : Expr} {name : Str} {apos pos : Pos} {env : Env} (hf : methodCallForm 1 (backTo pos (starEach [a] env)) [] = true) (hl : (apos.endLine == pos.line) = true) : eval (.Call (.Attribute o name apos) [a] [] pos) env = (do
      let ov ← attributeBase o name env (eval o env)
      standAt apos.atName
      let (f, first) ← holding [ov] (getMethod ov name (L2.plainOf o env))
      callWith pos f first (backTo pos (starEach [a] env)) []) := by
  rw [arm_eval_Call]
  have e := fun ov => L2.mcall_line (o := o) (m := name) (env := env) (ov := ov) hf hl
  have e0 : (backToKw pos (keywordEach [] env)) = [] := by first | rfl | simp [keywordEach, backToKw]
  rw [e0]
  simp only [List.length_cons, List.length_nil, Nat.zero_add, Nat.add_zero, e]
theorem one_size (v : Value) : [v].length ≤ sizeLine := by
  rw [sizeLine_eq]
  exact (by decide : 1 ≤ 16777216)
theorem ldL {M : Model} {A : Around} {E : Value → Shared → Prop} {s : Shared} {env : Env} {m : Str → Option Value} {x : Str} {pos : Pos} {v : Value} {Q : Value → Shared → Prop} (hn : s.heap.Ns env.locals m) (hv : m x = some v) (h : Q v s)
    (hk : env.scope.kind = .function := by rfl) (hl : env.kindOf x = some .local := by rfl) (hd : (x == ("__debug__" : Str)) = false := by decide) : wpAny M A (eval (.Name x pos) env) Q E s := wpAny_Name (wpAny_loadName_local hk hl hn hv h) hd
/-- what __init__ leaves of a fresh exception at x -/
structure InitEnd (h h' : Heap) (x C dx t1 : Addr) (v : Value) : Prop where
  keep : ∀ b o, b ≠ x → h.get? b = some o → h'.get? b = some o
  obj : h'.get? x = some { cls := .ref C, dict := some dx, data := .fields #[.ref t1, .none, .none, .none, .bool false, .none] }
  dbig : h.objs.size ≤ dx
  dne : dx ≠ x
  ns : h'.Ns1 dx (fun y => if y = "row" then some v else none)
/-- a made one -/
structure OwnMade (h h' : Heap) (e C d : Addr) (v : Value) : Prop where
  keep : ∀ b o, h.get? b = some o → h'.get? b = some o
  new : h.objs.size ≤ e
  obj : ∃ oe vs, h'.get? e = some oe ∧ oe.cls = .ref C ∧ oe.dict = some d ∧ oe.data = .fields vs ∧ vs[1]? = some .none
  dbig : h.objs.size ≤ d
  dne : d ≠ e
  ns : h'.Ns1 d (fun y => if y = "row" then some v else none)
section
variable {prog : Program} {w : World} {A : Around} {E : Value → Shared → Prop} {h : Heap} {g : Array GenState} {d : Drawn} {t : Nat} {os : OsState}
variable {nm q : Str} {C N : Addr} {bs bm : List Value} {hdct : Bool} {sn : List Str} {sub : List Value} {ab : Bool} {col : Option Bool} {dd : Option Addr} {k0 k1 k2 k3 k5 : Option Value}
theorem call_mw {u e t0 : Addr} {rest : List Value} {Q : Value → Shared → Prop}
    (hC : h.get? C = some (excClassObj nm q C N bs bm hdct sn sub ab col dd k0 k1 k2 k3 k5 "ValueError.__new__")) (he : h.get? e = some (excO C t0)) (hu : h.get? u = some (kxs_mw "ValueError.__init__" e)) (hrest : rest.length ≤ sizeLine)
    (hq : ∀ h' t1, (∀ b o, b ≠ e → h.get? b = some o → h'.get? b = some o) → h'.get? e = some (excO C t1) → Q .none ⟨h', g, d, t, os⟩) :
    wpAny (model prog w) A (call (.ref u) rest) Q E ⟨h, g, d, t, os⟩ := by
  refine wpAny_call (codeAny_of_tree ?_)
  show wpAny _ A.in1 (callAny (.ref u) ⟨rest, []⟩) _ _ _
  simp only [callAny]
  refine wpAny_bind (wpAny_load hu ?_)
  simp only [kxs_mw, show (Value.type "method-wrapper" == Value.type "method" || Value.type "method-wrapper" == Value.type "builtin_function_or_method" || Value.type "method-wrapper" == Value.type "method-wrapper") = true by decide, if_true]
  refine W.KFB.if_so (by decide) ?_
  refine wpAny_bind (ESX.check_bound F.excBase_ValueError hC he rfl ?_)
  refine wpAny_bind (wpAny_pure (wpAny_pure ?_))
  refine ⟨Code.quiet_builtin _ (by decide +kernel), codeAny_builtin F.excBase_ValueError.initEntry ?_⟩
  rw [Around.under_plainId F.excBase_ValueError.init.plain _]
  wp_walk
  refine hq _ h.objs.size (fun b o hb ho => ?_) ?_
  · rw [Heap.get?_update_other _ _ (Ne.symm hb)]
    exact Heap.get?_push_of_some _ ho
  · rw [Heap.get?_update_self _ (Heap.get?_push_of_some _ he) rfl]
    rfl
end
section
variable {prog : Program} {w : World} {A : Around} {E : Value → Shared → Prop} {R : Result → Shared → Prop} {s : Shared} {K : Frag} {mg mb : Str → Option Value} {x : Str} {C : Addr}
theorem row_init (T : RowTxt prog K mg x C) {fI e t0 : Addr} {n : Int} {tn : Tok} (hfI : findIn K (.ref C) "__init__" = some (some (.ref fI))) (X : K.In s.heap) (hg : s.heap.Ns mainGlobals mg) (hb : s.heap.Ns builtinsNs mb) (hbb : ∀ x : Str, x ≠ "__name__" → mb x = bootBuiltins x) (hlim : s.heap.NoLimit) (hx : s.heap.get? e = some (excO C t0)) (hnx : K.lookup e = none) (hroom : A.depth < recursionLimit) (hz : n.natAbs.log2 < 1920)
    (hs : mg "super" = none) (hq : ∀ h' tk dx t1, InitEnd s.heap h' e C dx t1 (.int n tn) → R (.ok (.ret .none)) { s with heap := h', toks := tk }) :
    codeAny (model prog w) A (.call (.ref fI) ⟨[.ref e, .int n tn], []⟩) R s := by
  obtain ⟨fI', qn, m, oc, od, doc, pm, an, cda, cc, ct, osl, p1, p2, r0, r1, r2, r3, r4, r5, r6, r7, r8, q1, q2, q3, q4, vs, file, tf, ccl, cl, cdd, cld, ccs, csl, hi, htf, ho, hcd, hcode, hvs, hfile, hcell, hm, hline⟩ := T.fn
  rw [hfI] at hi
  cases hi
  obtain ⟨nm, q, N, bs, bm, sn, sub, ab, col, dd, k0, k1, k2, k3, k5, hC, hbm, hal, _⟩ := T.cls
  have hcl : clsIn K C = some { name := nm, bases := bs, mro := .ref C :: bm, ns := N, qualname := q, hasDict := true, slotNames := sn, subclasses := sub, abstract := ab, collection := col, hasDel := false } := by unfold clsIn; rw [hC] <;> rfl
  have hcS : ∀ y ∈ iS.names, y.2 ≠ .cell := by decide
  have hlS : ∀ y ∈ [(("self" : Str), Value.ref e), (("row" : Str), Value.int n tn)], iS.names.lookup y.1 = some .local := fun y hy => by
    simp only [List.mem_cons, List.not_mem_nil, or_false] at hy
    rcases hy with rfl | rfl <;> rfl
  refine ks_codeAny_call_defAt (fd := ksFn "__init__" qn (iA p1 p2) (iB m r0 r1 r2 r3 r4 r5 r6 r7 r8 q1 q2 q3 q4) iS .none .none doc pm an (.ref cda) ct cc) (binds := [("self", .ref e), ("row", .int n tn)]) hroom (X _ _ ho) rfl hlim (codeRec_of X hcd) rfl (BindsTo.of_eq (by first | rfl | with_unfolding_all rfl)) hcS hlS (fun h₁ hn k => ?_)
  have X₁ : K.In h₁ := X.keeps k
  have hx₁ := k _ _ hx
  obtain ⟨hh, g, d, tk, os⟩ := s
  dsimp only at hn k X₁ hx₁ hx X hg hb hlim hq ⊢
  have hD1 : h₁.get? C = some (excClassObj nm q C N bs bm true sn sub ab col dd k0 k1 k2 k3 k5 "ValueError.__new__") := X₁ _ _ hC
  -- super().__init__(f"..")
  refine ks_wpAt_execs_cons (ks_wpAt_Expr_any (ks_wpAt_MethodCall (he := eval_meth rfl hline) (ks_wpAt_super_base (f := fI) (cc := cda) rfl rfl (by decide) rfl (X₁ _ _ ho) rfl rfl rfl (X₁ _ _ hcode) rfl hvs hfile T.top ?_)))
  have hnC : e ≠ C := fun z => by rw [z, hC] at hnx; cases hnx
  refine ks_loadName_global rfl rfl (loadGlobal_builtin (hg.keeps k) hs (hb.keeps k) ((hbb _ (by decide +kernel)).trans (by decide +kernel)) ⟨rfl, ?_⟩)
  refine wpAny_loadName_free rfl rfl rfl ⟨_, X₁ _ _ hcell, rfl⟩ ?_
  refine wpAny_loadName_local rfl rfl hn (by first | rfl | with_unfolding_all rfl) ?_
  refine ks_wpAny_isType_cls hD1 rfl ⟨rfl, ?_⟩
  refine ks_wpAny_call_super hD1 rfl hx₁ rfl (fun c z => nomatch z) (looks_subIn X₁ T.scC) (fun h₂ so k₂ => ?_)
  have X₂ : K.In h₂ := X₁.keeps k₂
  have hx₂ := k₂ _ _ hx₁
  have I₂ : InstAt h₂ e (excO C t0) C none := ⟨hx₂, rfl, rfl, trivial⟩
  refine kxs_getMethod kxs_ValueError so (looks_opaque X₂ T.opq) (l₀ := .ref C :: bm) (fun A Q E s k q => wpAny_bind ((looks_clsIn X₂ hcl) A _ E s k (wpAny_pure q))) (ESX.drop_own C bm) X₂ hal (I₂.type.andThen (looks_subIn X₂ T.exV)) hnC (by decide) ?_
  have k₃ : ∀ b o, h₂.get? b = some o → (h₂.push (kxs_mw "ValueError.__init__" e)).get? b = some o := fun b o q => Heap.get?_push_of_some _ q
  have hu : (h₂.push (kxs_mw "ValueError.__init__" e)).get? h₂.objs.size = some (kxs_mw "ValueError.__init__" e) := Heap.get?_push_at rfl rfl
  have hn₃ := (hn.keeps k₂).keeps k₃
  have hnum : (Str.ofString (toString n)).length ≤ 2000 := by
    have a := int_text_length_le (k := 1920) (by decide) hz
    rw [ofString_length]
    omega
  have hcat : ∀ a b : Str, (a ++ b).length = a.length + b.length := fun a b => by
    show (a.cps ++ b.cps).size = _
    rw [Array.size_append]
    rfl
  have he0 : (Str.empty).length = 0 := rfl
  have hsz : 4000 ≤ sizeLine := by rw [sizeLine_eq]; decide
  refine kxs_callWith (i := "ValueError.__init__") (x := e) rfl (evalArgs_plain ?_)
  show wpAny _ _ (spliced [(false, eval (.JoinedStr [.Constant (.str m) 0 r5, .FormattedValue (.Name "row" r6) (-1) none r7] r8) _)]) _ _ _
  refine Calls.spliced_cons (wpAny_JoinedStr ?_)
  show wpAny _ _ (eval (.Constant (.str m) 0 r5) _) _ _ _
  refine Calls.Constant_str ⟨m, _, rfl, (by rw [hcat, he0]; omega), ?_⟩
  show wpAny _ _ (eval (.FormattedValue (.Name "row" r6) (-1) none r7) _) _ _ _
  refine wpAny_FormattedValue_plain (ldL (v := .int n tn) hn₃ (by first | rfl | with_unfolding_all rfl) (wpAny_formatField_int hz ⟨Str.ofString (toString n), _, rfl, (by rw [hcat, hcat, he0]; omega), (by rw [hcat, hcat, he0]; omega), Calls.spliced_nil ⟨hu, ?_⟩⟩))
  refine call_mw (k₃ _ _ (X₂ _ _ hC)) (k₃ _ _ hx₂) hu (one_size _) (fun h₅ t1 k₅ hx₅ => ?_)
  -- self.row = row
  have nL : hh.objs.size ≠ e := Nat.ne_of_gt (Heap.lt_size hx)
  have hn₅ : h₅.Ns hh.objs.size _ := hn₃.at' fun o q => k₅ _ o nL q
  have X₅ : K.In h₅ := fun a o q => k₅ a o (fun z => by rw [z, hnx] at q; cases q) (k₃ _ _ (X₂ a o q))
  refine ks_wpAt_execs_cons (ks_wpAt_Assign_Attr (wpAt_of_wpAny (ldL (v := .int n tn) hn₅ (by first | rfl | with_unfolding_all rfl) (ldL (v := .ref e) hn₅ (by first | rfl | with_unfolding_all rfl) ?_))))
  refine set_plain X₅ (ox := excO C t1) (od := none) ⟨hx₅, rfl, rfl, trivial⟩ T.sa ?_
  refine exc_osa X₅ hx₅ hcl (show refsVE (.ref C :: bm) = true from hbm) rfl T.noN (fun h₆ tk₆ dx k₆ dn dne hx₆ hn₆ => ?_)
  refine wpAt_of_wpAny (wpAny_execs_nil (hq h₆ tk₆ dx t1 ⟨fun b o hb q => k₆ b o hb (k₅ b o hb (k₃ _ _ (k₂ _ _ (k _ _ q)))), hx₆, Nat.le_of_lt (Nat.lt_of_lt_of_le hn₅.lt dn), dne, hn₆⟩))
theorem row_made (T : RowTxt prog K mg x C) {n : Int} {tn : Tok} (X : K.In s.heap) (hg : s.heap.Ns mainGlobals mg) (hb : s.heap.Ns builtinsNs mb) (hbb : ∀ x : Str, x ≠ "__name__" → mb x = bootBuiltins x) (hlim : s.heap.NoLimit) (hroom : A.depth + 1 < recursionLimit) (hz : n.natAbs.log2 < 1920) (hs : mg "super" = none)
    (hq : ∀ h' tk e d, OwnMade s.heap h' e C d (.int n tn) → R (.ok (.ret (.ref e))) { s with heap := h', toks := tk }) :
    codeAny (model prog w) A (.call (.ref C) ⟨[.int n tn], []⟩) R s := by
  obtain ⟨nm, q, N, bs, bm, sn, sub, ab, col, dd, k0, k1, k2, k3, k5, hC, hbm, _⟩ := T.cls
  obtain ⟨fI, _, _, _, _, _, _, _, _, _, _, _, _, _, _, _, _, _, _, _, _, _, _, _, _, _, _, _, _, _, _, _, _, _, _, _, iC, tC, _⟩ := T.fn
  obtain ⟨hp, g, dr, tk, os⟩ := s
  have k : ∀ b o, hp.get? b = some o → ((hp.push (kdv_tup [.int n tn])).push (excO C hp.objs.size)).get? b = some o := fun b o e => Heap.get?_push_of_some _ (Heap.get?_push_of_some _ e)
  have hget : ((hp.push (kdv_tup [.int n tn])).push (excO C hp.objs.size)).get? (hp.objs.size + 1) = some (excO C hp.objs.size) := by heap_get
  have hnx : K.lookup (hp.objs.size + 1) = none := by
    cases e : K.lookup (hp.objs.size + 1) with
    | none => rfl
    | some o =>
      have z : hp.get? (hp.objs.size + 1) = some o := X _ _ e
      exact absurd (Nat.lt_of_succ_lt (Heap.lt_size z)) (Nat.lt_irrefl _)
  refine call_own F.excBase_ValueError (fun X => refsVE_contains X bm hbm) (X _ _ hC) (looks_findIn X iC) (fun self => bind_fn X self tC) (one_size (.int n tn)) ?_
  refine row_init (s := ⟨(hp.push (kdv_tup [.int n tn])).push (excO C hp.objs.size), g, dr, tk, os⟩) T iC (X.keeps k) (hg.keeps k) (hb.keeps k) hbb (hlim.keeps k) hget hnx ?_ hz hs fun h' tk' dx t1 ⟨k', hx, dn, dne, hns⟩ => ?_
  · show A.depth + 1 < recursionLimit
    exact hroom
  · have old : ∀ b o, hp.get? b = some o → h'.get? b = some o := fun b o e => k' b o (Nat.ne_of_lt (Nat.lt_succ_of_lt (Heap.lt_size e))) (k b o e)
    have z : hp.objs.size + 1 + 1 ≤ dx := by
      first
        | (simpa only [Heap.size_push] using dn)
        | exact dn
        | (have q := dn; rw [Heap.size_push, Heap.size_push] at q; exact q)
    exact ⟨rfl, hq h' tk' (hp.objs.size + 1) dx ⟨old, Nat.le_succ _, ⟨_, _, hx, rfl, rfl, rfl, rfl⟩, Nat.le_trans (Nat.le_trans (Nat.le_succ _) (Nat.le_succ _)) z, dne, hns⟩⟩
end
end RowX
end PySem
namespace L2
open PySem PySem.Spec PyProof.Rows
theorem relO_row {v : V} {v' : Value} (r : RelV v v') (f : Str) : RelO (List.lookup f [(("row" : Str), v)]) (if f = "row" then some v' else none) := by
  by_cases hw : f = "row"
  · subst hw
    rw [if_pos rfl]
    have q : List.lookup ("row" : Str) [(("row" : Str), v)] = some v := by simp [List.lookup]
    rw [q]
    exact r
  · rw [if_neg hw]
    have qw : (f == ("row" : Str)) = false := by simpa using hw
    have q2 : List.lookup f [(("row" : Str), v)] = none := by simp [List.lookup, qw]
    rw [q2]
    trivial
section
variable {X : Cx} {C : Addr} {x : Str}
/-- X(e), e a whole number -/
def tMkRow (C : Addr) (ta : TA) : St → Hp → XK → Prop := fun σ H Q => ta σ H fun vs H1 => ∃ n, vs = [.int n] ∧ n.natAbs.log2 < 1920 ∧ ∀ d, H1 d = none → Q (.ref C) (some d) (upd H1 d (.xd [(("row" : Str), .int n)]))
theorem pmk_row {a : Expr} {ta : TA} {p pos : Pos} {k : Nat} (T : PySem.RowX.RowTxt X.prog X.K X.mg x C) (hs : X.mg "super" = none) (hr : Room k X.A) (ha : PA X [a] ta) (hg : Gl X x) (hdb : (x == ("__debug__" : Str)) = false := by decide)
    (he : starEach (a :: []) X.env = (false, eval a X.env) :: starEach [] X.env := by rfl) (hpl : (backTo pos (starEach [] X.env)).any (·.1) = false := by rfl) :
    PMk X (.Call (.Name x p) [a] [] pos) (tMkRow C ta) := by
  intro pins s σ H Q I h
  refine wpAny_Call_Name_kw (ld_glob I hg T.gC ?_ hdb)
  refine PySem.W.callWith_K (h₀ := X.base) I.ok.mod.kin T.kC (thn (ha.run pos pins s σ H _ I h) fun us s1 hh => ?_) he hpl
  obtain ⟨vs, H1, I1, r1, n, ev, hz, q1⟩ := hh
  subst ev
  refine ⟨I1.kIn, ?_⟩
  cases r1 with
  | cons rv rn =>
    rename_i v' us'
    cases rn
    obtain ⟨tn, rfl⟩ := rv
    show wpAny _ _ (call (.ref C) [.int n tn]) _ _ _
    have hlim := I1.nolimit
    obtain ⟨mb, hb1, hb2⟩ := I1.mod.blt
    have hglob := I1.mod.glob.keeps I1.bk
    have hbl := hb1.keeps I1.bk
    have kin := I1.kIn
    obtain ⟨hp, g, dr, tk, os⟩ := s1
    refine wpAny_call (PySem.RowX.row_made T kin hglob hbl hb2 hlim (by have := hr.dp; omega) hz hs fun h' tk' e d M => ?_)
    show MkP X pins σ Q (.ref e) ⟨h', g, dr, tk', os⟩
    obtain ⟨oe, fv, hoe, hc, hd, hdat, h1⟩ := M.obj
    have hns := M.ns
    obtain ⟨G', g1, g2⟩ := restrict h' fun b => decide (b ≠ e)
    have gk : ∀ b, b ≠ e → G'.get? b = h'.get? b := fun b hb => g1 b (decide_eq_true hb)
    have ge : G'.get? e = none := g2 e (by simp)
    have old : ∀ b o, hp.get? b = some o → G'.get? b = some o := fun b o q => (gk b (Nat.ne_of_lt (Nat.lt_of_lt_of_le (Heap.lt_size q) M.new))).trans (M.keep b o q)
    have ob : ObjOk X.prog X.w (upd H1 d (.xd [(("row" : Str), .int n)])) G' d (.xd [(("row" : Str), .int n)]) :=
      ⟨_, hns.at (fun o q => (gk d M.dne).trans q), fun f => relO_row (v := .int n) ⟨tn, rfl⟩ f⟩
    have J : Inv X pins σ (upd H1 d (.xd [(("row" : Str), .int n)])) ⟨G', g, dr, tk', os⟩ := I1.laid (t' := tk') old M.dbig ob
    refine ⟨e, oe, fv, ⟨G', g, dr, tk', os⟩, _, .ref C, some d, rfl, J, fun b o q => ?_, ge, hoe, ⟨hc, hd⟩, hdat, h1, ?_, rfl, I1.bare, raises_own T.exC T.tyC, q1 d (I1.hok.fresh M.dbig)⟩
    · by_cases hb : b = e
      · have q' : G'.get? b = some o := q
        rw [hb, ge] at q'; cases q'
      · exact (gk b hb).symm.trans q
    · rw [upd_ne (Ne.symm M.dne)]
      exact I1.hok.fresh M.new
end
end L2
namespace Fx
open PySem PySem.Spec PyProof.Rows L2 Evl Lk
/-- raise X(e), X with a row -/
def wRaiseR (xw : Xv → Env → Prop) (C : Addr) (w : WE) : WS := fun _ env => w env fun r e => ∃ n, r = .f (.int n) ∧ n.natAbs.log2 < 1920 ∧ xw ⟨C, some n⟩ e
section
variable {X : Cx} {G : Gx} {x : Str} {C : Addr} {a : Expr} {w : WE} {p pos pos2 : Pos} {k : Nat}
theorem gs_raiseR (T : PySem.RowX.RowTxt X.prog X.K X.mg x C) (hsu : X.mg "super" = none) (tk : GTk X G) (hr : Room k X.A) (hc : X.calm = true) (hg : Gl X x) (ha : GE X G a w) (hdb : (x == ("__debug__" : Str)) = false := by decide)
    (he : starEach (a :: []) X.env = (false, eval a X.env) :: starEach [] X.env := by rfl) (hpl : (backTo pos (starEach [] X.env)).any (·.1) = false := by rfl) :
    GS X G (.Raise (some (.Call (.Name x p) [a] [] pos)) none pos2) (wRaiseR G.xw C w) := by
  refine ⟨ps_imp (ps_raise hc tk (pmk_row T hsu hr (pa_cons ha.pe pa_nil he) hg hdb he hpl)) fun D σ H ⟨T, env, F, r, q⟩ => ?_, fun _ _ _ _ q => q⟩
  show tW G w σ H fun v H1 => tNil σ H1 fun vs H2 => ∃ n, v :: vs = [.int n] ∧ n.natAbs.log2 < 1920 ∧ ∀ d, H2 d = none → wishX G (.ref C) (some d) σ (upd H2 d (.xd [(("row" : Str), .int n)]))
  refine ⟨T, env, F, r, ha.mono _ _ _ (fun s e ⟨n, h1, h2, q⟩ v T1 H1 F1 fr at1 z => ?_) q⟩
  subst h1
  have hv := z.rel.1
  cases hv
  refine ⟨n, rfl, h2, fun d nd => ?_⟩
  have ex : Ex H1 (upd H1 d (.xd [(("row" : Str), .int n)])) := Ex.new nd
  exact ⟨T1, e, F1, ⟨C, some n⟩, at1.re.ex ex, ⟨rfl, d, rfl, hid_of upd_same (nT at1.re.trk nd)⟩, q⟩
end
end Fx

namespace Fx
open PySem PySem.Spec PyProof.Rows L2 Evl Lk

/-- no exception is wished for -/
theorem gtk_no {X : Cx} {G : Gx} (h : ∀ y e, ¬ G.xw y e) : GTk X G := fun u s' ⟨_, _, _, _, _, _, _, _, _, _, _, _, _, _, _, _, w⟩ => by
  obtain ⟨T, env, F, y, _, _, q⟩ := w
  exact (h y env q).elim

/-! ### text.split(sep) -/
def wSplit (w1 w2 : WE) : WE := fun env Q => w1 env fun r1 e1 => ∃ a, r1 = .f (.str a) ∧ w2 e1 fun r2 e2 => ∃ b, r2 = .f (.str b) ∧ (b.length == 0) = false ∧ a.length + 2 ≤ sizeLine ∧ Q (.f (.lst ((Txt.split a b).map D.str))) e2
theorem fzl_strs {K : PySem.W.Frag} {H : Hp} : ∀ (ys : List Str), FzL K H (ys.map V.str) (ys.map D.str)
  | [] => .nil
  | y :: ys => .cons (.str y) (fzl_strs ys)
section
variable {X : Cx} {G : Gx} {e : Expr} {w w1 w2 : WE}
theorem ge_split {o : Expr} {apos pos : Pos} (ho : GE X G o w1) (he : GE X G e w2) (hs : starEach [e] X.env = [(false, eval e X.env)] := by rfl) (hbase : attributeBase o "split" X.env (eval o X.env) = eval o X.env := by rfl) (hline : (apos.endLine == pos.line) = true := by rfl) :
    GE X G (.Call (.Attribute o "split" apos) [e] [] pos) (wSplit w1 w2) := by
  refine ⟨pe_imp (pe_split ho.pe he.pe hs hbase hline) fun σ H Q ⟨T, env, F, r, q⟩ => ⟨T, env, F, r, ho.mono _ _ _ (fun s e ⟨a, hs, q⟩ x T1 H1 F1 f1 a1 z1 => ?_) q⟩, fun env Q Q' i q => ho.mono _ _ _ (fun s e ⟨a, hs, q⟩ => ⟨a, hs, he.mono _ _ _ (fun s2 e2 ⟨b, h1, h2, h3, q⟩ => ⟨b, h1, h2, h3, i _ _ q⟩) q⟩) q⟩
  subst hs
  have zr := z1.rel.1
  cases zr
  refine ⟨⟨a, rfl⟩, T1, e, F1, a1.re, he.mono _ _ _ (fun s2 e2 ⟨b, h1, h2, h3, q⟩ y T2 H2 F2 f2 a2 z2 => ?_) q⟩
  subst h1
  have zr := z2.rel.1
  cases zr
  refine ⟨a, b, rfl, rfl, h2, h3, fun p np => ?_⟩
  exact q _ T2 _ F2 [] ((a1.trans r.trk a2).trans r.trk (Att.ex a2.re (Ex.new np))) (res_f (fz_new_l a2.re.trk np (fzl_strs _)))
end

/-! ### xs[lo:hi:k] of a list -/
def pickL {α : Type} (xs : List α) (lo hi st : Option Int) : List α := (sliceRange (sliceBounds lo hi st xs.length).1 (sliceBounds lo hi st xs.length).2.1 (sliceBounds lo hi st xs.length).2.2).filterMap (xs[·]?)
theorem pick_vals {xs : List V} {us : List Value} (r : Vals xs us) (lo hi st : Option Int) : Vals (pickL xs lo hi st) (pickL us lo hi st) := by
  unfold pickL
  rw [r.length]
  generalize sliceRange _ _ _ = is
  induction is with
  | nil => exact .nil
  | cons i is ih =>
    rw [List.filterMap_cons, List.filterMap_cons]
    cases h : xs[i]? with
    | none =>
      have h2 : us[i]? = none := by
        rw [List.getElem?_eq_none_iff] at h ⊢
        rw [← r.length]
        exact h
      rw [h2]
      exact ih
    | some x =>
      obtain ⟨u, h2, h3⟩ := r.get h
      rw [h2]
      exact .cons h3 ih
theorem FzL.pick {K : PySem.W.Frag} {H : Hp} {vs : List V} {ds : List D} (f : FzL K H vs ds) (lo hi st : Option Int) : FzL K H (pickL vs lo hi st) (pickL ds lo hi st) := by
  unfold pickL
  rw [f.length]
  generalize sliceRange _ _ _ = is
  induction is with
  | nil => exact .nil
  | cons i is ih =>
    rw [List.filterMap_cons, List.filterMap_cons]
    cases h : vs[i]? with
    | none =>
      have h2 : ds[i]? = none := by
        rw [List.getElem?_eq_none_iff] at h ⊢
        rw [← f.length]
        exact h
      rw [h2]
      exact ih
    | some x =>
      have hl := (List.getElem?_eq_some_iff.mp h).1
      rw [f.length] at hl
      have h2 : ds[i]? = some ds[i] := List.getElem?_eq_getElem hl
      rw [h2]
      exact .cons (f.get h h2) ih
theorem pick_arr (us : List Value) (lo hi st : Option Int) : slicePick us.toArray lo hi st = (pickL us lo hi st).toArray := by
  unfold slicePick pickL
  rw [List.size_toArray]
  congr 1
  refine congrFun (congrArg _ (funext fun i => ?_)) _
  exact List.getElem?_toArray ..
section
variable {X : Cx} {G : Gx} {e : Expr} {w : WE} {lo hi : Option Expr}
theorem pe_stp {te : TE} {tl th : TO} {k : Int} {j : Nat} {p1 p3 pos : Pos} (he : PE X e te) (hl : PO X lo tl) (hh : PO X hi th) (hk : k ≠ 0) : PE X (.Subscript e (.Slice lo hi (some (.Constant (.int k) j p1)) p3) pos)
    (fun σ H Q => te σ H fun x H1 => ∃ a, x = .ref a ∧ tl σ H1 fun l H2 => th σ H2 fun u H3 => ∃ xs, SqL X.K H3 a xs ∧ ∀ p, H3 p = none → Q (.ref p) (upd H3 p (.lst (pickL xs l u (some k))))) := by
  refine ⟨fun pins s σ H Q I h => ?_⟩
  refine Subscript_ (thn (he.run pins s σ H _ I h) fun v s1 ⟨x, H1, I1, r1, a, ex, q⟩ => ?_)
  subst ex
  cases r1
  have hst : PO X (some (.Constant (.int k) j p1)) (tPart (tC (.int k))) := po_some pe_int
  refine wpAny_Slice (thn (hl.run pins s1 σ H1 _ I1 q) fun vl s2 ⟨l, H2, I2, pl, q2⟩ => ?_)
  refine thn (hh.run pins s2 σ H2 _ I2 q2) fun vu s3 ⟨u, H3, I3, pu, q3⟩ => ?_
  refine thn (hst.run pins s3 σ H3 (fun o H4 => o = some k ∧ H4 = H3) I3 ⟨k, rfl, rfl, rfl⟩) fun vs s4 ⟨o, H4, I4, ps, eo, e4⟩ => ?_
  subst eo e4
  obtain ⟨xs, hx, q⟩ := q3
  have I5 : Inv X pins σ H4 { s4 with heap := s4.heap.push { cls := .type "slice", data := .fields #[vl, vu, vs] } } := I4.kept (t' := s4.toks) fun b ob q => Heap.get?_push_of_some _ q
  obtain ⟨its, r, ht, hz⟩ := I5.list hx
  have hlen := r.length
  show wpAny (model X.prog X.w) X.A (subscriptTail e (.Slice lo hi (some (.Constant (.int k) j p1)) p3) (.ref a) (.ref s4.heap.objs.size)) (EP X pins σ Q) X.xe { s4 with heap := s4.heap.push { cls := .type "slice", data := .fields #[vl, vu, vs] } }
  refine tail_any (ops := [.ref a, .ref s4.heap.objs.size]) ht.isList.typeIs (PySem.slot_list_getitem.lookup) ?_ (by with_unfolding_all rfl)
  refine wpAny_getItem_list_slice ht.isList (Heap.IsSliceOf.new _ vl vu vs) pl pu ps (fun z => hk (Option.some.inj z)) ?_ (by rw [List.size_toArray]; omega)
  rw [pick_arr]
  have hn := slicePick_size_le its.toArray l u (some k)
  rw [pick_arr, List.size_toArray, List.size_toArray] at hn
  have pv := pick_vals r l u (some k)
  refine ⟨.ref _, _, I5.laid (t' := s4.toks) (o := .lst (pickL xs l u (some k))) (fun b ob q => Heap.get?_push_of_some _ q) (Nat.le_refl _) ?_, rfl, q _ (I5.hok.fresh (Nat.le_refl _))⟩
  exact ⟨by rw [pv.length]; omega, _, 0, pv, Heap.get?_push_size _ rfl⟩
def wStp (k : Int) (w : WE) (wl wh : WO) : WE := fun env Q => w env fun r e => ∃ ds, r = .f (.lst ds) ∧ wl e fun l e2 => wh e2 fun u e3 => Q (.f (.lst (pickL ds l u (some k)))) e3
theorem ge_stp {k : Int} {j : Nat} {p1 p3 pos : Pos} {wl wh : WO} (he : GE X G e w) (hl : GO X G lo wl) (hu : GO X G hi wh) (hk : k ≠ 0 := by decide) (hK : X.K = G.K := by rfl) : GE X G (.Subscript e (.Slice lo hi (some (.Constant (.int k) j p1)) p3) pos) (wStp k w wl wh) := by
  refine ⟨pe_imp (pe_stp he.pe hl.po hu.po hk) fun σ H Q ⟨T, env, F, r, q⟩ => ⟨T, env, F, r, he.mono _ _ _ (fun s e ⟨ds, hs, q⟩ x T1 H1 F1 f1 a1 z1 => ?_) q⟩, fun env Q Q' i q => he.mono _ _ _ (fun s e ⟨d, hs, q⟩ => ⟨d, hs, hl.mono _ _ _ (fun l e2 q => hu.mono _ _ _ (fun u e3 q => i _ _ q) q) q⟩) q⟩
  subst hs
  obtain ⟨a, vs, rfl, l, f⟩ := Cz.of z1.rel.1
  refine ⟨a, rfl, T1, e, F1, a1.re, hl.mono _ _ _ (fun l e2 q T2 H2 F2 a2 => ⟨T2, e2, F2, a2.re, hu.mono _ _ _ (fun u e3 q T3 H3 F3 a3 => ?_) q⟩) q⟩
  have f1 : Fz G.K (hid T1 H1) (.ref a) (.lst ds) := z1.rel.1
  have f3 := Fz.att a2.re a3 (Fz.att a1.re a2 f1)
  obtain ⟨a', vs', e1, l', f'⟩ := Cz.of f3
  cases e1
  refine ⟨vs', by rw [hK]; exact l', fun p np => ?_⟩
  exact q _ T3 _ F3 [] (((a1.trans r.trk a2).trans r.trk a3).trans r.trk (Att.ex a3.re (Ex.new np))) (res_f (fz_new_l a3.re.trk np (f'.pick _ _ _)))
end

/-! ### f-strings -/
def dFmt : D → (Str → Prop) → Prop
  | .str y, Q => y.length ≤ sizeLine ∧ Q y
  | .int i, Q => i.natAbs.log2 < 1920 ∧ Q (toString i)
  | _, _ => False
theorem dFmt_mono {d : D} {Q Q' : Str → Prop} (i : ∀ y, Q y → Q' y) (q : dFmt d Q) : dFmt d Q' := by
  cases d <;> first | exact ⟨q.1, i _ q.2⟩ | exact q.elim
def wFmt (w : WE) : WE := fun env Q => w env fun r e => ∃ d, r = .f d ∧ dFmt d fun y => Q (.f (.str y)) e
def wJs : List WE → Str → Env → (Str → Env → Prop) → Prop
  | [], acc, env, Q => Q acc env
  | w :: ws, acc, env, Q => w env fun r e => ∃ y, r = .f (.str y) ∧ (acc ++ y).length ≤ sizeLine ∧ wJs ws (acc ++ y) e Q
def wJoined (ws : List WE) : WE := fun env Q => wJs ws Str.empty env fun y e => Q (.f (.str y)) e
inductive GJ (X : Cx) (G : Gx) : List Expr → List WE → Prop where
  | nil : GJ X G [] []
  | cons {e : Expr} {w : WE} {es : List Expr} {ws : List WE} (h : GE X G e w) (r : GJ X G es ws) : GJ X G (e :: es) (w :: ws)
section
variable {X : Cx} {G : Gx} {e : Expr} {w : WE}
theorem ge_fmt {pos : Pos} (he : GE X G e w) : GE X G (.FormattedValue e (-1) none pos) (wFmt w) := by
  refine ⟨pe_imp (pe_fmt he.pe) fun σ H Q ⟨T, env, F, r, q⟩ => ⟨T, env, F, r, he.mono _ _ _ (fun s e ⟨d, hs, q⟩ x T1 H1 F1 f1 a1 z1 => ?_) q⟩, fun env Q Q' i q => he.mono _ _ _ (fun s e ⟨d, hs, q⟩ => ⟨d, hs, dFmt_mono (fun y q => i _ _ q) q⟩) q⟩
  subst hs
  have zr := z1.rel.1
  cases d with
  | str y =>
    cases zr
    exact .inl ⟨y, rfl, q.1, q.2 _ T1 H1 F1 [] a1 (res_f (.str _))⟩
  | int i =>
    cases zr
    exact .inr ⟨i, rfl, q.1, q.2 _ T1 H1 F1 [] a1 (res_f (.str _))⟩
  | _ => exact (show False from q).elim
theorem gj_pj {es : List Expr} {ws : List WE} (h : GJ X G es ws) : PJ X es (ws.map (tW G)) := by
  induction h with
  | nil => exact .nil
  | cons h r ih => exact .cons h.pe ih
theorem wJs_mono {es : List Expr} {ws : List WE} (h : GJ X G es ws) : ∀ {acc : Str} {env : Env} {Q Q' : Str → Env → Prop}, (∀ y e, Q y e → Q' y e) → wJs ws acc env Q → wJs ws acc env Q' := by
  induction h with
  | nil => exact fun i q => i _ _ q
  | cons h r ih => exact fun i q => h.mono _ _ _ (fun s e ⟨y, h1, h2, q⟩ => ⟨y, h1, h2, ih i q⟩) q
theorem js_run {σ : L2.St} {es : List Expr} {ws : List WE} (h : GJ X G es ws) : ∀ {acc : Str} {env : Env} {T : Addr → Prop} {H : Hp} {F : Nat → List Addr} {Q : Str → Hp → Prop}, RE G T H σ env F →
    wJs ws acc env (fun y e => ∀ T' H' F', Att G σ T H env F T' H' e F' → Q y H') → tJs (ws.map (tW G)) acc σ H Q := by
  induction h with
  | nil => exact fun r q => q _ _ _ (.refl r)
  | @cons e w es ws h hr ih =>
    intro acc env T H F Q r q
    refine ⟨T, env, F, r, h.mono _ _ _ (fun s e1 ⟨y, hs, hz, q⟩ x T1 H1 F1 f1 a1 z1 => ?_) q⟩
    subst hs
    have zr := z1.rel.1
    cases zr
    exact ⟨y, rfl, hz, ih a1.re (wJs_mono hr (fun y e q T2 H2 F2 a2 => q T2 H2 F2 (a1.trans r.trk a2)) q)⟩
theorem ge_joined {v1 v2 : Expr} {rest : List Expr} {ws : List WE} {pos : Pos} (h : GJ X G (v1 :: v2 :: rest) ws) : GE X G (.JoinedStr (v1 :: v2 :: rest) pos) (wJoined ws) :=
  ⟨pe_imp (pe_joined (gj_pj h)) fun σ H Q ⟨T, env, F, r, q⟩ => js_run h r (wJs_mono h (fun y e q T1 H1 F1 a1 => q _ T1 H1 F1 [] a1 (res_f (.str _))) q), fun env Q Q' i q => wJs_mono h (fun y e q => i _ _ q) q⟩
end

/-! ### steps of walks -/
section
variable {w w1 w2 : WE} {wl wh : WO} {env : Env} {Q : Sl → Env → Prop} {ws : List WE} {acc : Str} {QJ : Str → Env → Prop}
theorem x_split (h : w1 env fun r1 e1 => ∃ a, r1 = .f (.str a) ∧ w2 e1 fun r2 e2 => ∃ b, r2 = .f (.str b) ∧ (b.length == 0) = false ∧ a.length + 2 ≤ sizeLine ∧ Q (.f (.lst ((Txt.split a b).map D.str))) e2) : wSplit w1 w2 env Q := h
theorem x_stp {k : Int} (h : w env fun r e => ∃ ds, r = .f (.lst ds) ∧ wl e fun l e2 => wh e2 fun u e3 => Q (.f (.lst (pickL ds l u (some k)))) e3) : wStp k w wl wh env Q := h
theorem x_js (h : wJs ws Str.empty env fun y e => Q (.f (.str y)) e) : wJoined ws env Q := h
theorem x_jsC (h : w env fun r e => ∃ y, r = .f (.str y) ∧ (acc ++ y).length ≤ sizeLine ∧ wJs ws (acc ++ y) e QJ) : wJs (w :: ws) acc env QJ := h
theorem x_jsN (h : QJ acc env) : wJs [] acc env QJ := h
theorem x_fmt (h : w env fun r e => ∃ d, r = .f d ∧ dFmt d fun y => Q (.f (.str y)) e) : wFmt w env Q := h
theorem x_fmtS {y : Str} {p : Str → Prop} (hz : y.length ≤ sizeLine) (h : p y) : dFmt (.str y) p := ⟨hz, h⟩
theorem x_fmtI {i : Int} {p : Str → Prop} (hz : i.natAbs.log2 < 1920) (h : p (toString i)) : dFmt (.int i) p := ⟨hz, h⟩
end
end Fx

namespace Fx
open PySem PySem.Spec PyProof.Rows L2 Evl Lk

/-! ### another wish -/
section
variable {X : Cx} {G : Gx} {xw : Xv → Env → Prop} {T : Addr → Prop} {H : Hp} {σ : L2.St} {env : Env} {F : Nat → List Addr} {st : List Stmt} {w : WS}
theorem re_swap (r : RE G T H σ env F) : RE (G.wth xw G.hx) T H σ env F := ⟨r.trk, r.tab, r.slot, r.dis, r.st, r.ow, r.t0, r.pin, r.len, r.hx⟩
theorem re_back (r : RE (G.wth xw G.hx) T H σ env F) : RE G T H σ env F := ⟨r.trk, r.tab, r.slot, r.dis, r.st, r.ow, r.t0, r.pin, r.len, r.hx⟩
theorem resS_back {s : Sl} {v : V} {fr : List Addr} (z : ResS (G.wth xw G.hx) T H env F s v fr) : ResS G T H env F s v fr := ⟨z.rel, z.nv, z.dis, z.from_⟩
theorem resS_swap {s : Sl} {v : V} {fr : List Addr} (z : ResS G T H env F s v fr) : ResS (G.wth xw G.hx) T H env F s v fr := ⟨z.rel, z.nv, z.dis, z.from_⟩
theorem GSs.back (h : GSs X (G.wth xw G.hx) st w) : GSs X G st w := by
  refine ⟨⟨fun pins s σ H D I ⟨T, env, F, r, q⟩ => h.pss.run pins s σ H D I ⟨T, env, F, re_swap r, h.mono _ _ _ ?_ q⟩⟩, h.mono⟩
  exact ⟨fun e q σ1 T1 H1 F1 r1 x1 => q σ1 T1 H1 F1 (re_back r1) x1, fun s e q v σ1 T1 H1 F1 fr r1 z1 => q v σ1 T1 H1 F1 fr (re_back r1) (resS_back z1), fun e q σ1 T1 H1 F1 r1 x1 => q σ1 T1 H1 F1 (re_back r1) x1, fun e q σ1 T1 H1 F1 r1 x1 => q σ1 T1 H1 F1 (re_back r1) x1⟩
theorem gtk_swap (tk : GTk X G) (i : ∀ y e, xw y e → G.xw y e) : GTk X (G.wth xw G.hx) := Takes.imp tk fun cls d σ H ⟨T, env, F, y, r, hy, q⟩ => ⟨T, env, F, y, re_back r, hy, i _ _ q⟩
end

/-! ### defs of values that may raise -/
abbrev WFnX := List D → (Sl → Prop) → (Xv → Prop) → Prop
def liftX (W : WFnX) : WDX := fun as Q B => ∃ ds, as = ds.map Sl.f ∧ W ds (fun r => Q r (ds.map Sl.f)) fun y => B y (ds.map Sl.f)
def MonoFX (W : WFnX) : Prop := ∀ ds (Q Q' : Sl → Prop) (B B' : Xv → Prop), (∀ r, Q r → Q' r) → (∀ y, B y → B' y) → W ds Q B → W ds Q' B'
theorem mono_liftX {W : WFnX} (m : MonoFX W) : MonoDX (liftX W) := fun as Q Q' B B' i j ⟨ds, h, q⟩ => ⟨ds, h, m _ _ _ _ _ (fun r q => i _ _ q) (fun y q => j _ _ q) q⟩
def wCallFX (xw : Xv → Env → Prop) (W : WFnX) (wd : WAD) : WE := fun env Q => wd env fun ds e => W ds (fun r => Q r e) fun y => xw y e
section
variable {xw : Xv → Env → Prop} {W : WFnX} {wd : WAD}
theorem callFX_call (m : MonoFX W) (n : MonoAD wd) {env : Env} {Q : Sl → Env → Prop} (q : wCallFX xw W wd env Q) : wCallX xw (liftX W) (waD wd) env Q :=
  n _ _ _ (fun ds e q => ⟨_, resA_map e ds, agOk_map ds, ds, rfl, m _ _ _ _ _ (fun d q => ⟨rfl, by rw [wbGo_map]; exact q⟩) (fun d q => ⟨rfl, by rw [wbGo_map]; exact q⟩) q⟩) q
theorem mono_callFX (m : MonoFX W) (n : MonoAD wd) : MonoE (wCallFX xw W wd) := fun env Q Q' i q => n _ _ _ (fun ds e q => m _ _ _ _ _ (fun d q => i _ _ q) (fun _ q => q) q) q
end
section
variable {X : Cx} {G : Gx} {e : Expr} {es : List Expr} {wd : WAD} {x : Str} {k j : Nat} {tabs : List Addr} {p pos : Pos} {W : WFnX}
theorem ge_callFX {xw : Xv → Env → Prop} (hxw : G.xw = xw) (c : CalX X.prog X.w X.K X.mg X.base k x (spX X.K tabs (liftX W))) (tk : GTk X G) (hr : Room j X.A) (hk : k ≤ j) (hg : Gl X x) (hK : X.K = G.K) (ht : tabs = G.tabs) (mW : MonoFX W) (ha : GD X G (e :: es) wd)
    (hdb : (x == ("__debug__" : Str)) = false := by decide) (he : starEach (e :: es) X.env = (false, eval e X.env) :: starEach es X.env := by rfl) (hpl : (backTo pos (starEach es X.env)).any (·.1) = false := by rfl) :
    GE X G (.Call (.Name x p) (e :: es) [] pos) (wCallFX xw W wd) := by
  subst hxw
  exact ge_imp (ge_callX c tk hr hk hg hK ht (mono_liftX mW) ha.ga hdb he hpl) (fun _ _ q => callFX_call mW ha.mono q) (mono_callFX mW ha.mono)
theorem ge_ckFX {xw : Xv → Env → Prop} (hxw : G.xw = xw) {kws : List Keyword} {ks : List Str} (c : CalKX X.prog X.w X.K X.mg X.base k x (spX X.K tabs (liftX W)) ks) (tk : GTk X G) (hr : Room j X.A) (hk : k ≤ j) (hg : Gl X x) (hK : X.K = G.K) (ht : tabs = G.tabs) (mW : MonoFX W)
    (hlen : ∀ ds Q B, W ds Q B → ds.length = ks.length) (ha : GKD X G kws wd)
    (hall : (backToKw pos (keywordEach kws X.env)).all (·.1.isSome) = true := by rfl) (hks : (backToKw pos (keywordEach kws X.env)).filterMap (·.1) = ks := by rfl) (hdb : (x == ("__debug__" : Str)) = false := by decide)
    (hpl : ((backTo pos (starEach [] X.env)).any (·.1) || (backToKw pos (keywordEach kws X.env)).any (·.1.isNone)) = false := by rfl) :
    GE X G (.Call (.Name x p) [] kws pos) (wCallFX xw W wd) := by
  subst hxw
  exact ge_imp (ge_ckX c tk hr hk hg hK ht (mono_liftX mW) (fun as Q B ⟨ds, h, q⟩ => by rw [h, List.length_map]; exact hlen _ _ _ q) ha.gk hall hks hdb hpl) (fun _ _ q => callFX_call mW ha.mono q) (mono_callFX mW ha.mono)
end
section
variable {P : Program} {w : World} {K : PySem.W.Frag} {mg : Str → Option Value} {base : Heap} {x : Str} {st : Stmt} {N ps : List Str} {k : Nat} {tabs : List Addr}
theorem fx_fnFX {W : WFnX} {f : Addr} {fd : FuncData} (F : Fun K x x st f fd) (S : FnScope N ps (defScope st)) (hlen : ∀ ds Q B, W ds Q B → ds.length = ps.length)
    (hbody : ∀ (cdv : Value) (A : Around) (outer : List PySem.Env) (s : Shared) (H : Hp) (E : XK) (T : Addr → Prop) (P0 : Addr → Prop) (σ0 : L2.St) (ds : List D) (Q : Sl → Prop) (B : Xv → Prop), fd.code = cdv → Room k (A.deeper (envOfC x (defScope st) s.heap.objs.size f cdv)) →
      GTk (cxOf (L2.CX P w) P w K mg base N x (defScope st) f cdv A outer s H E) ⟨K, tabs, T, H, P0, σ0, fun i => (List.replicate ps.length false).getD i false, fun y env => ps.length ≤ env.length ∧ B y, fun _ => none⟩ → W ds Q B →
      ∃ ws, GSs (cxOf (L2.CX P w) P w K mg base N x (defScope st) f cdv A outer s H E) ⟨K, tabs, T, H, P0, σ0, fun i => (List.replicate ps.length false).getD i false, fun y env => ps.length ≤ env.length ∧ B y, fun _ => none⟩ (defBody st) ws ∧
        ws ⟨fun env => ps.length ≤ env.length ∧ Q (.f .non), fun r env => ps.length ≤ env.length ∧ Q r, fun _ => False, fun _ => False⟩ (startE N (ds.map Sl.f))) : FnOk P w K mg base (L2.CX P w) (k + 1) f fd ps (spX K tabs (liftX W)) := by
  refine fx_fnX (List.replicate ps.length false) F S (fun as Q B ⟨ds, h, q⟩ => by rw [h, List.length_map]; exact hlen _ _ _ q) fun cdv A outer s H E T P0 σ0 as Q B hcd hr tk ⟨ds, h, q⟩ => ?_
  subst h
  have hl := hlen _ _ _ q
  have out : ∀ env : Env, ps.length ≤ env.length → OutOk (List.replicate ps.length false) (ds.map Sl.f) env ∧ outA (List.replicate ps.length false) (ds.map Sl.f) env = ds.map Sl.f := fun env l => by
    obtain ⟨a, b⟩ := outOk_f ds env (by rw [hl]; exact l)
    rw [hl] at a b
    exact ⟨a, b⟩
  obtain ⟨ws, h1, h2⟩ := hbody cdv A outer s H E T P0 σ0 ds _ _ hcd hr (gtk_swap tk fun y e ⟨l, q⟩ => by
    obtain ⟨a, b⟩ := out e l
    exact ⟨a, by rw [b]; exact q⟩) q
  refine ⟨ws, GSs.back h1, h1.mono _ _ _ ?_ h2⟩
  refine ⟨fun env ⟨l, q⟩ => ?_, fun r env ⟨l, q⟩ => ?_, fun _ h => h.elim, fun _ h => h.elim⟩
  · obtain ⟨a, b⟩ := out env l
    exact ⟨a, by rw [b]; exact q⟩
  · obtain ⟨a, b⟩ := out env l
    exact ⟨a, by rw [b]; exact q⟩
end

/-! ### a, b = a list -/
def gLp (n : Nat) (u : WGs) : WG := fun d env Q => ∃ ds, d = .lst ds ∧ ds.length = n ∧ u ds env Q
section
variable {X : Cx} {G : Gx} {pos : Pos}
theorem gg_lst {es : List Expr} {k n : Nat} {u : WGs} (hc : X.calm = true) (h : GGs X G es u) (hK : X.K = G.K := by rfl) (hn : (assignEach es X.env).length = n := by rfl) (hst : (assignEach es X.env).findIdx? (·.1) = none := by rfl) : GG X G (.Tuple es k pos) (gLp n u) := by
  refine ⟨⟨fun pins s σ H v uu Q I rv ⟨T, env, F, d, r, fz, ds, hd, hl, q⟩ => (pg_lst hc h.pg hn hst).run pins s σ H v uu Q I rv ?_⟩, fun d env Q Q' i ⟨ds, hd, hl, q⟩ => ⟨ds, hd, hl, h.mono _ _ _ _ i q⟩, fun _ _ _ q => q⟩
  subst hd
  obtain ⟨a, vs, e, l, f⟩ := Cz.of fz
  exact ⟨a, vs, e, by rw [hK]; exact l, f.length.trans hl, T, env, F, ds, r, f, q⟩
end

/-! ### steps of walks -/
section
variable {w : WE} {wd : WAD} {env : Env} {Q : Sl → Env → Prop} {W : WFnX} {xw : Xv → Env → Prop} {ds : List D} {q : Env → Prop} {D0 : WEnds}
theorem x_callFX (h : wd env fun ds e => W ds (fun r => Q r e) fun y => xw y e) : wCallFX xw W wd env Q := h
theorem x_glp {n : Nat} {u : WGs} (h : ds.length = n) (h2 : u ds env q) : gLp n u (.lst ds) env q := ⟨ds, rfl, h, h2⟩
theorem x_raiseR {C : Addr} (h : w env fun r e => ∃ n, r = .f (.int n) ∧ n.natAbs.log2 < 1920 ∧ xw ⟨C, some n⟩ e) : wRaiseR xw C w D0 env := h
theorem x_raiseN {C : Addr} {n : Int} {e : Env} (hz : n.natAbs.log2 < 1920) (h : xw ⟨C, some n⟩ e) : ∃ m, Sl.f (.int n) = .f (.int m) ∧ m.natAbs.log2 < 1920 ∧ xw ⟨C, some m⟩ e := ⟨n, rfl, hz, h⟩
theorem x_row {K : PySem.W.Frag} (h : w env fun r e => ∃ C n, r = .f (.ty (.exc C (some n))) ∧ RowC K C ∧ Q (.f (.int n)) e) : wRow K w env Q := h
theorem x_rowE {K : PySem.W.Frag} {C : Addr} {n : Int} {e : Env} (h : RowC K C) (h2 : Q (.f (.int n)) e) : ∃ C' m, Sl.f (.ty (.exc C (some n))) = .f (.ty (.exc C' (some m))) ∧ RowC K C' ∧ Q (.f (.int m)) e := ⟨C, n, rfl, h, h2⟩
/-- one kind of exception alone, caught -/
theorem x_try {K : PySem.W.Frag} {c : Value} {i : Nat} {tb : (Xv → Env → Prop) → WS} {ts : WS} {n : Env → Prop} {r : Sl → Env → Prop} {b k : Env → Prop} (xw' : Xv → Env → Prop)
    (h1 : ∀ y e, xw' y e → PySem.W.exmOne K (.ref y.C) c = some true ∧ i < e.length ∧ ts (WEnds.at ⟨n, r, b, k⟩ i) (e.set i (some (.f (.ty (.exc y.C y.row)))))) (h2 : tb xw' ⟨n, r, b, k⟩ env) : wTry K c i tb ts xw ⟨n, r, b, k⟩ env :=
  ⟨xw', _, le_refl, fun y e hy => by
    obtain ⟨a, b, c⟩ := h1 y e hy
    exact ⟨true, a, fun _ => ⟨b, c⟩, nofun⟩, h2⟩
end
end Fx

namespace Fx
open PySem PySem.Spec PyProof.Rows L2 Evl Lk
/-! ### more steps of walks -/
section
variable {wa : WA} {env : Env} {QI : List D → Env → Prop} {ds es : List D} {p : List D → List D → Prop}
theorem x_iZ (h : wa env fun as e => ∃ ds es, (as = [.v (.f (.tup ds)), .v (.f (.tup es))] ∨ as = [.v (.f (.lst ds)), .v (.f (.lst es))]) ∧ QI (List.zipWith (fun a b => .tup [a, b]) ds es) e) : wiZ wa env QI := h
theorem x_zT (h : p ds es) : ∃ ds' es', (List.map agD [.tup ds, .tup es] = [.v (.f (.tup ds')), .v (.f (.tup es'))] ∨ List.map agD [.tup ds, .tup es] = [.v (.f (.lst ds')), .v (.f (.lst es'))]) ∧ p ds' es' := ⟨ds, es, .inl rfl, h⟩
theorem x_zL (h : p ds es) : ∃ ds' es', (List.map agD [.lst ds, .lst es] = [.v (.f (.tup ds')), .v (.f (.tup es'))] ∨ List.map agD [.lst ds, .lst es] = [.v (.f (.lst ds')), .v (.f (.lst es'))]) ∧ p ds' es' := ⟨ds, es, .inr rfl, h⟩
end
theorem x_isN0 {neg : Bool} {a : D} {Q : D → Prop} (h : isNon a = false) (k : Q (.bl neg)) : dIsN neg a .non Q := x_isN (by rw [h]; exact k)
theorem x_isN1 {neg : Bool} {Q : D → Prop} (k : Q (.bl (!neg))) : dIsN neg .non .non Q := x_isN k
theorem zip_at {α β γ : Type} {f : α → β → γ} {xs : List α} {ys : List β} {i : Nat} {d : γ} (h : (List.zipWith f xs ys)[i]? = some d) : ∃ x y, xs[i]? = some x ∧ ys[i]? = some y ∧ d = f x y := by
  rw [List.getElem?_zipWith] at h
  cases hx : xs[i]? with
  | none => rw [hx] at h; cases h
  | some x =>
    cases hy : ys[i]? with
    | none => rw [hx, hy] at h; cases h
    | some y => rw [hx, hy] at h; cases h; exact ⟨x, y, rfl, rfl, rfl⟩
theorem take_snoc {α : Type} {l : List α} {i : Nat} {x : α} (h : l[i]? = some x) : l.take (i + 1) = l.take i ++ [x] := by
  rw [List.take_succ, h]
  rfl
end Fx

namespace Fx
open PySem PySem.Spec PyProof.Rows L2 Evl Lk
/-! ### what the top has written of a class whose exceptions have a row -/
theorem row_txt {prog : Program} {K : PySem.W.Frag} {h : Heap} {mg : Str → Option Value} {x : Str} {C f N cda cc : Addr} {st : Stmt} (KX : K.In h) (G : h.Ns mainGlobals mg)
    {nm q qn m file : Str} {bs bm : List Value} {sn : List Str} {sub : List Value} {ab : Bool} {col : Option Bool} {dd od an cdd cld : Option Addr} {k0 k1 k2 k3 k5 : Option Value} {oc doc pm ct ccl cl : Value} {osl ccs csl : Array (Option Value)} {vs : Array Value} {tf : Tok}
    (hst : ∃ p1 p2 r0 r1 r2 r3 r4 r5 r6 r7 r8 q1 q2 q3 q4, defArgs st = PySem.RowX.iA p1 p2 ∧ defBody st = PySem.RowX.iB m r0 r1 r2 r3 r4 r5 r6 r7 r8 q1 q2 q3 q4 ∧ defScope st = PySem.RowX.iS ∧ (r2.endLine == r3.line) = true)
    (a : PySem.W.nsIn K mainGlobals x = some (some (.ref C))) (xl : K.lookup C = some (excClassObj nm q C N bs bm true sn sub ab col dd k0 k1 k2 k3 k5 "ValueError.__new__")) (hb : PySem.HandSPX.refsVE bm = true)
    (al : PySem.W.alongIn K "__init__" bm = some (some (.builtin "ValueError.__init__"))) (sa : PySem.W.findIn K (.ref C) "__setattr__" = some (some (.builtin "object.__setattr__"))) (nb : PySem.W.findIn K (.ref C) "row" = some none)
    (i : PySem.W.findIn K (.ref C) "__init__" = some (some (.ref f))) (t : PySem.W.typeIn K (.ref f) = some (.type "function")) (kC : PySem.W.keepIn K (.ref C) = true) (eC : PySem.W.subIn K (.ref C) (.type "BaseException") = some true) (sC : PySem.W.subIn K (.ref C) (.ref C) = some true) (vC : PySem.W.subIn K (.ref C) (.type "ValueError") = some true)
    (tC : PySem.W.typeIn K (.ref C) = some (.type "type")) (su : PySem.W.nsIn K mainGlobals "super" = some none) (oq : PySem.W.nsIn K cStatics "thirdparty.any" = some none) (tp : (prog.main.scope.names.lookup ("super" : Str)).isSome = false)
    (l : K.lookup f = some ⟨oc, od, .func (PySem.W.ksFn "__init__" qn (defArgs st) (defBody st) (defScope st) .none .none doc pm an (.ref cda) ct cc), osl⟩) (c : PySem.W.codeIn K (.ref cda) qn = true) (d : K.lookup cda = some ⟨ccl, cdd, .fields vs, ccs⟩) (e : vs[2]? = some (.str file tf)) (g : ((prog.main.file : Str) == file) = true)
    (ce : K.lookup cc = some ⟨cl, cld, .cell (some (.ref C)), csl⟩) (ml : m.length ≤ 1000) : PySem.RowX.RowTxt prog K mg x C := by
  obtain ⟨p1, p2, r0, r1, r2, r3, r4, r5, r6, r7, r8, q1, q2, q3, q4, e1, e2, e3, e4⟩ := hst
  rw [e1, e2, e3] at l
  exact ⟨PySem.W.mg_of KX G a, ⟨nm, q, N, bs, bm, sn, sub, ab, col, dd, k0, k1, k2, k3, k5, xl, hb, al, rfl⟩, sa, nb, kC, eC, sC, vC, tC, su, oq, tp,
    ⟨f, qn, m, oc, od, doc, pm, an, cda, cc, ct, osl, p1, p2, r0, r1, r2, r3, r4, r5, r6, r7, r8, q1, q2, q3, q4, vs, file, tf, ccl, cl, cdd, cld, ccs, csl, i, t, l, c, d, e, g, ce, ml, e4⟩⟩
theorem along_of {K : PySem.W.Frag} {H N : Addr} {nm q : Str} {bs bm : List Value} {hd : Bool} {sn : List Str} {sub : List Value} {ab : Bool} {col : Option Bool} {dd : Option Addr} {k0 k1 k2 k3 k5 : Option Value} {i : String} {n : Str} {r : Option (Option Value)}
    (l : K.lookup H = some (excClassObj nm q H N bs bm hd sn sub ab col dd k0 k1 k2 k3 k5 i)) (f : PySem.W.findIn K (.ref H) n = r) : PySem.W.alongIn K n (.ref H :: bm) = r := by
  unfold PySem.W.findIn at f
  dsimp only at f
  rw [l] at f
  exact f
theorem exm_own {K : PySem.W.Frag} {S : Addr} (h1 : PySem.W.subIn K (.ref S) (.type "BaseException") = some true) (h2 : PySem.W.isClsIn K S = true) (h3 : PySem.W.typeIn K (.ref S) = some (.type "type")) (h4 : PySem.W.subIn K (.ref S) (.ref S) = some true) :
    PySem.W.exmOne K (.ref S) (.ref S) = some true := by
  have h2' : (PySem.W.clsIn K S).isSome = true := h2
  unfold PySem.W.exmOne
  rw [h1]
  show (if ((PySem.W.clsIn K S).isSome && PySem.W.typeIn K (.ref S) == some (.type "type")) = true then PySem.W.subIn K (.ref S) (.ref S) else none) = some true
  rw [h2', h3]
  exact h4
end Fx

/-! len(set(xs)), xs a list of texts, as many as there are (HandS.Strs has it for one) -/
namespace Fx.SS
open PySem PySem.Spec PyProof.Rows
/-- what was met so far, each once -/
def met {κ : Type} [BEq κ] (key : Nat → κ) : Nat → List κ
  | 0 => []
  | i + 1 => if (met key i).any (· == key i) then met key i else met key i ++ [key i]
theorem met_len {κ : Type} [BEq κ] (key : Nat → κ) : ∀ i, (met key i).length ≤ i
  | 0 => Nat.le_refl _
  | i + 1 => by
    have := met_len key i
    unfold met
    split
    · omega
    · rw [List.length_append, List.length_singleton]; omega
section
variable {prog : Program} {w : World} {A : Around} {R : Result → Shared → Prop} {I : Addr} {fp wr : List Addr} {G : Array GenState → Array GenState → Prop} {n : Nat} {P : Nat → Value → Prop} {St : Nat → Shared → Prop}
theorem loop_met (W : WalksS prog w A.in1 I fp wr G n P St) (S : Addr) (hSf : S ∉ fp) (key : Nat → Str) (hb : n + 1 < scanBound) (hval : ∀ i v, P i v → ∃ t, v = .str (key i) t) :
    ∀ (k i : Nat) (s : Shared), n - i = k → i ≤ n → St i s → s.heap.SetOf (PySem.strKind prog w) S (fun q => (met key i).any (· == q)) (met key i).length →
      (∀ s', Moved (S :: wr) G s s' → s'.heap.SetOf (PySem.strKind prog w) S (fun q => (met key n).any (· == q)) (met key n).length → R (.ok (.ret .none)) s') →
      codeAny (model prog w) A (.builtin "set.update.loop" ⟨[.ref S, .ref I], []⟩) R s := by
  have out : S ∉ wr := fun h => hSf (W.sub _ h)
  have old : ∀ {b}, b ∈ wr → b ∈ S :: wr := fun h => List.mem_cons_of_mem _ h
  have moves : ∀ {s s' : Shared} {S' : Str → Bool} {m : Nat}, Moved wr G s s' → s.heap.SetOf (PySem.strKind prog w) S S' m → s'.heap.SetOf (PySem.strKind prog w) S S' m := fun hm ⟨o, es, ep, t, ho, rest⟩ => ⟨o, es, ep, t, hm.heap S _ out ho, rest⟩
  intro k
  induction k with
  | zero =>
    intro i s hk hi st hS q
    obtain rfl : i = n := by omega
    refine codeAny_builtin PyProof.Rows.F.entry_set_update_loop ?_
    rw [Around.under_plainId PyProof.Rows.F.plain_set_update_loop _]
    exact wpAny_bind (W.done s _ _ st fun s' hm => wpAny_pure (q s' (hm.mono fun b hb => old hb) (moves hm hS)))
  | succ k ih =>
    intro i s hk hi st hS q
    have lt : i < n := by omega
    have room : (met key i).length + 1 < scanBound := by have := met_len key i; omega
    refine codeAny_builtin PyProof.Rows.F.entry_set_update_loop ?_
    rw [Around.under_plainId PyProof.Rows.F.plain_set_update_loop _]
    refine wpAny_bind (W.item i s _ _ lt st fun v s' hP st' hm => ?_)
    obtain ⟨t, rfl⟩ := hval i v hP
    show wpAny _ A.in1 (holding [Value.str (key i) t] (setAdd S (.str (key i) t)) >>= _) _ _ s'
    unfold setAdd
    refine wpAny_bind (wpAny_holding (wpAny_holding (wpAny_bind ((PySem.strKind prog w).pyHash (k := key i) (strKind_is _ _ _ _) ?_))))
    have hS1 := moves hm hS
    refine wpAny_setAddHashed_of (knd := PySem.strKind prog w) (s := { s' with toks := s'.toks + 1 }) (strKind_is _ _ _ _) rfl hS1 room fun h' same hS2 => ?_
    have hS3 : h'.SetOf (PySem.strKind prog w) S (fun q => (met key (i + 1)).any (· == q)) (met key (i + 1)).length := by
      refine SetOf_congr hS2 (fun q => ?_) ?_
      · show _ = (if (met key i).any (· == key i) then met key i else met key i ++ [key i]).any (· == q)
        split
        · rename_i c
          by_cases e : q = key i
          · rw [e, c]; rfl
          · simp [e]
        · rw [List.any_append]
          congr 1
          by_cases e : q = key i
          · subst e; simp
          · have e' : (key i == q) = false := beq_eq_false_iff_ne.mpr fun h => e h.symm
            simp [e, e']
      · show _ = (if (met key i).any (· == key i) then met key i else met key i ++ [key i]).length
        split
        · rfl
        · rw [List.length_append, List.length_singleton]
    refine wpAny_pure ⟨plainId_quiet PyProof.Rows.F.plain_set_update_loop _, ih (i + 1) _ (by omega) lt (W.frame _ s' _ _ st' (Nat.le_succ _) fun b hb o e => (same.2 b fun h : b = S => hSf (by rw [← h]; exact hb)).trans e) hS3 fun s2 hm2 hS4 => ?_⟩
    exact q s2 (Moved.trans W.gtrans ((hm.mono fun b hb => old hb).then_heap (Nat.le_succ _) fun b o hb e => (same.2 b fun h : b = S => hb (by rw [h]; exact List.mem_cons_self)).trans e) hm2) hS4
end
section
variable {prog : Program} {w : World} {A : Around} {E : Value → Shared → Prop} {s : Shared}
theorem call_set_strs {l : Addr} {items : Array Value} {key : Nat → Str} {Q : Value → Shared → Prop} (hh : A.handled = none) (hl : s.heap.IsList l items) (hv : ∀ (i : Nat) (v : Value), items[i]? = some v → ∃ t, v = .str (key i) t) (hb : items.size + 1 < scanBound)
    (q : ∀ (h' : Heap) (tk : Nat), h'.SetOf (PySem.strKind prog w) s.heap.objs.size (fun k => (met key items.size).any (· == k)) (met key items.size).length → (∀ b o, b < s.heap.objs.size → s.heap.get? b = some o → h'.get? b = some o) → Q (.ref s.heap.objs.size) { s with heap := h', toks := tk }) :
    wpAny (model prog w) A (call (.type "set") [.ref l]) Q E s := by
  let S0 (led : Bool) : Obj := { cls := .type "set", dict := none, data := .set #[] 0 (.fresh 0 0 led) }
  obtain ⟨c, tl, hmro⟩ := PySem.F.called_set.mro
  have g1 := PySem.F.called_set.made
  have g2 := PySem.F.called_set.sub
  have g3 := PySem.F.called_set.notType
  have g4 := PySem.F.called_set.canCreate
  have g5 := PySem.F.typeCall_set_1 (.ref l)
  refine wpAny_call (codeAny_of_tree (wpAny_pure ⟨Code.quiet_builtin _ (by decide +kernel), codeAny_builtin PySem.F.entry_type_call ?_⟩))
  rw [Around.under_plain (weight_type_call_type "set" [.ref l] []) rfl]
  repeat (any_goals (first | assumption | wp_step))
  refine codeAny_mono (code_set_new_1 (.ref l) (E := E) (Q₁ := fun obj s₁ => ∃ led : Bool, obj = .ref s.heap.objs.size ∧ s₁ = { s with heap := s.heap.push (S0 led) }) fun led => ⟨led, rfl, rfl⟩) fun r s₁ hr => ?_
  cases r with
  | error e => exact hr
  | ok fl =>
    cases fl with
    | ret obj =>
      obtain ⟨led, rfl, rfl⟩ := hr
      have at0 : (s.heap.push (S0 led)).get? s.heap.objs.size = some (S0 led) := Heap.get?_push_size _ rfl
      have ty0 : Shared.TypeIs { s with heap := s.heap.push (S0 led) } (.ref s.heap.objs.size) "set" := ⟨_, at0, rfl⟩
      have g6 := PySem.F.called_set.init.lookup
      have g7 := PySem.F.called_set.init.bind (.ref s.heap.objs.size)
      repeat (any_goals (first | assumption | wp_step))
      refine codeAny_mono (codeAny_call_builtin (R := wants (fun r s₂ => r = .none ∧ ∃ h' tk, s₂ = { s with heap := h', toks := tk } ∧ h'.SetOf (PySem.strKind prog w) s.heap.objs.size (fun k => (met key items.size).any (· == k)) (met key items.size).length ∧
          (∀ b o, b < s.heap.objs.size → s.heap.get? b = some o → h'.get? b = some o)) E) PySem.F.called_set.init.plain PySem.F.entry_set_init (check_set_init_1 ty0 ?_)) fun r₂ s₂ hr₂ => ?_
      · obtain ⟨⟨ocls, odict, odata, oslots⟩, hol, hcl, nl, hdl⟩ := hl
        simp only at hcl hdl
        subst hcl; subst hdl
        have hol' : (s.heap.push (S0 led)).get? l = some { cls := .type "list", dict := odict, data := .seq items nl, slots := oslots } := Heap.get?_push_of_some _ hol
        have hl1 : (s.heap.push (S0 led)).IsList l items := ⟨_, hol', rfl, nl, rfl⟩
        have g8 := PySem.F.sub_list_set
        have g9 := PySem.F.sub_list_frozenset
        have g10 : (Value.type "list" == Value.type "dict") = false := by decide
        have lt := Heap.lt_size hol
        have hh3 : A.in1.in1.in1.handled = none := by simp [hh]
        have e1 : (s.heap.push (S0 led)).objs.size = s.heap.objs.size + 1 := Heap.size_push ..
        unfold Builtin.«set.__init__» noKeywords Builtin.Frozenset.updateFrom
        generalize hPI : pyIter = PI
        wp_walk
        subst hPI
        refine wpAny_pyIter_list hl1 (wpAny_bind (wpAny_runValue ?_))
        refine loop_met ((Walks.list hh3 _ l (by rw [e1]; exact Nat.ne_of_lt (Nat.lt_succ_of_lt lt)) items).toS) s.heap.objs.size (by rw [e1]; simp only [List.mem_cons, List.mem_singleton, List.not_mem_nil, or_false, not_or]; exact ⟨Nat.ne_of_lt (Nat.lt_succ_self _), Nat.ne_of_gt lt⟩) key hb hv (items.size - 0) 0 _ (by omega) (Nat.zero_le _) ⟨⟨_, Heap.get?_push_size _ rfl, rfl, rfl⟩, (hl1.push _)⟩ ?_ ?_
        · exact SetOf_congr ((setObjOf_fresh (knd := PySem.strKind prog w) led).setOf (Heap.get?_push_of_some _ at0) (by unfold scanBound; omega)) (fun _ => rfl) rfl
        · intro ⟨h', g', d', tk', os'⟩ hm hS
          obtain rfl : g' = s.gens := hm.gens
          obtain rfl : d' = s.drawn := hm.drawn
          obtain rfl : os' = s.os := hm.os
          refine wpAny_pure ?_
          show wpAny _ _ (ret Value.none) _ _ _
          refine wpAny_pure ⟨rfl, h', tk', rfl, hS, fun b o hlt e => hm.heap b o ?_ (Heap.get?_push_of_some _ (Heap.get?_push_of_some _ e))⟩
          rw [e1]
          simp only [List.mem_cons, List.mem_singleton, List.not_mem_nil, or_false, not_or]
          exact ⟨Nat.ne_of_lt hlt, Nat.ne_of_lt (Nat.lt_succ_of_lt hlt)⟩
      · cases r₂ with
        | error e => exact hr₂
        | ok fl₂ =>
          cases fl₂ with
          | ret r =>
            obtain ⟨rfl, h', tk, rfl, hS, hk⟩ := hr₂
            repeat (any_goals (first | assumption | wp_step))
            exact q _ _ hS hk
          | _ => exact hr₂.elim
    | _ => exact hr.elim
end
end Fx.SS

namespace Fx
open PySem PySem.Spec PyProof.Rows L2 Evl Lk
/-! ### x[a:c] = a list, x a slot that owns a list -/
/-- the lists that the top has written are plain -/
def chkL (K : PySem.W.Frag) : Bool := K.all fun p => p.2.cls != .type "list" || (p.2.dict.isNone && p.2.slots.isEmpty && (match p.2.data with | .seq _ n => n == 0 | _ => false))
theorem chk_at {K : PySem.W.Frag} (h : chkL K = true) {a : Addr} {o : Obj} {its : Array Value} {n : Nat} (e : K.lookup a = some o) (c : o.cls = .type "list") (d : o.data = .seq its n) : o = { cls := .type "list", data := .seq its 0 } := by
  have m : (a, o) ∈ K := by
    clear h
    induction K with
    | nil => cases e
    | cons p K ih =>
      obtain ⟨b, u⟩ := p
      rw [List.lookup_cons] at e
      by_cases hb : a == b
      · rw [hb] at e
        cases e
        rw [beq_iff_eq.mp hb]
        exact List.mem_cons_self
      · rw [Bool.not_eq_true] at hb
        rw [hb] at e
        exact List.mem_cons_of_mem _ (ih e)
  have z := List.all_eq_true.mp h (a, o) m
  obtain ⟨cls, dict, data, slots⟩ := o
  simp only at c d
  subst c d
  simp only [bne_self_eq_false, Bool.false_or, Bool.and_eq_true] at z
  obtain ⟨⟨z1, z2⟩, z3⟩ := z
  have z3 := beq_iff_eq.mp z3
  subst z3
  cases dict with
  | none =>
    have z2 : slots = #[] := by simpa using z2
    rw [z2]
  | some _ => cases z1
section
variable {X : Cx} {G : Gx}
/-- a list value, its object -/
theorem lst_obj {pins : List (Addr × Obj)} {σ : L2.St} {H : Hp} {s : Shared} {b : Addr} {vs : List V} (hL : chkL X.K = true) (I : Inv X pins σ H s) (l : SqL X.K H b vs) : vs.length ≤ sizeLine ∧ ∃ (its : List Value) (n : Nat), Vals vs its ∧ s.heap.get? b = some { cls := .type "list", data := .seq its.toArray n } := by
  rcases l with l | ⟨o, its, n, e, c, _, d, z, r⟩
  · obtain ⟨z, its, n, r, e⟩ := l.ok I.hok
    exact ⟨z, its, n, r, e⟩
  · have eo := chk_at hL e c d
    subst eo
    have g := I.kIn _ _ e
    have q : vs.length = its.size := by have := r.length; simpa using this
    exact ⟨by rw [q]; exact z, its.toList, 0, r, g⟩
def gSetSl (k : Nat) (wl wh : WO) : WG := fun d env Q => (∃ s, env[k]? = some (some (.own (.lst s)))) ∧ wl env fun l e => wh e fun u e2 => ∃ a c xs ys, l = some a ∧ u = some c ∧ d = .lst ys ∧ e2[k]? = some (some (.own (.lst xs))) ∧ 0 ≤ a ∧ a ≤ c ∧ c ≤ (xs.length : Int) ∧ xs.length + ys.length ≤ sizeLine ∧
  Q (e2.set k (some (.own (.lst (xs.take a.toNat ++ ys ++ xs.drop c.toNat)))))
theorem gg_setSl {o : Expr} {lo hi : Option Expr} {k : Nat} {wl wh : WO} {p2 pos : Pos} (hL : chkL X.K = true) (ho : PE X o (tVar k)) (hl : GO X G lo wl) (hh : GO X G hi wh) (hK : X.K = G.K := by rfl)
    (ha : ∀ v, assign (.Subscript o (.Slice lo hi none p2) pos) X.env v = (do
      let ov ← holding [v] (eval o X.env)
      let iv ← holding [v, ov] (eval (.Slice lo hi none p2) X.env)
      standAt pos
      holding [v, ov, iv] (setItem ov iv v)
      release [iv, v, ov] []) := by intro _; rfl) : GG X G (.Subscript o (.Slice lo hi none p2) pos) (gSetSl k wl wh) := by
  refine ⟨⟨fun pins s σ H v uu Q I rv ⟨T, env, F, d, r, fz, ⟨s0, h0⟩, q⟩ => ?_⟩, fun d env Q Q' ii ⟨h0, q⟩ => ⟨h0, hl.mono _ _ _ (fun l e q => hh.mono _ _ _ (fun u e2 ⟨a, c, xs, ys, h1, h2, h3, h4, h5, h6, h7, h8, q⟩ => ⟨a, c, xs, ys, h1, h2, h3, h4, h5, h6, h7, h8, ii _ q⟩) q) q⟩, fun _ _ _ q => q⟩
  obtain ⟨p0, vs0, s1, hp0, _, _⟩ := own_lst r h0
  rw [ha]
  refine wpAny_bind (wpAny_holding (thn (ho.run pins s σ H (fun x H1 => x = .ref p0 ∧ H1 = H) I ⟨_, s1, rfl, rfl⟩) fun ov sa ⟨x, H1, I1, r1, ex, eH⟩ => ?_))
  subst ex eH
  cases r1
  have hq : tWO G wl σ H1 fun l H2 => tWO G wh σ H2 fun u H3 => ∃ T3 e3 F3 a c xs ys, Att G σ T H1 env F T3 H3 e3 F3 ∧ l = some a ∧ u = some c ∧ d = .lst ys ∧ e3[k]? = some (some (.own (.lst xs))) ∧ 0 ≤ a ∧ a ≤ c ∧ c ≤ (xs.length : Int) ∧ xs.length + ys.length ≤ sizeLine ∧
      ∀ σ' T' H' F', RE G T' H' σ' (e3.set k (some (.own (.lst (xs.take a.toNat ++ ys ++ xs.drop c.toNat))))) F' → Ex (hid T H1) (hid T' H') → Q σ' H' :=
    ⟨T, env, F, r, hl.mono _ _ _ (fun l e q T1 H2 F1 a1 => ⟨T1, e, F1, a1.re, hh.mono _ _ _ (fun u e2 ⟨a, c, xs, ys, h1, h2, h3, h4, h5, h6, h7, h8, q⟩ T3 H3 F3 a3 => ⟨T3, e2, F3, a, c, xs, ys, a1.trans r.trk a3, h1, h2, h3, h4, h5, h6, h7, h8, q⟩) q⟩) q⟩
  refine wpAny_bind (wpAny_holding (wpAny_Slice (thn (hl.po.run pins sa σ H1 _ I1 hq) fun vl s2 ⟨l, H2, I2, pl, q2⟩ => ?_)))
  refine thn (hh.po.run pins s2 σ H2 _ I2 q2) fun vu s3 ⟨u, H3, I3, pu, q3⟩ => ?_
  refine thn (po_none.run pins s3 σ H3 (fun o H4 => o = none ∧ H4 = H3) I3 ⟨rfl, rfl⟩) fun vn s4 ⟨o4, H4, I4, pn4, eo, e4⟩ => ?_
  subst eo e4
  obtain ⟨T3, e3, F3, a, c, xs, ys, at3, el, eu, ed, hk, g1, g2, g3, g4, q⟩ := q3
  subst el eu ed
  have I5 : Inv X pins σ H4 { s4 with heap := s4.heap.push { cls := .type "slice", data := .fields #[vl, vu, vn] } } := I4.kept (t' := s4.toks) fun b ob q => Heap.get?_push_of_some _ q
  obtain ⟨p1, vs, sp, hp, f1, upd_⟩ := own_lst at3.re hk
  rw [s1] at sp
  cases sp
  have fz3 := Fz.att r at3 fz
  obtain ⟨b, ws, ev, lb, fb⟩ : ∃ b ws, v = .ref b ∧ SqL G.K (hid T3 H4) b ws ∧ FzL G.K (hid T3 H4) ws ys := by
    cases fz3 with
    | lst l f => exact ⟨_, _, rfl, l, f⟩
  subst ev
  cases rv
  have lb' : SqL X.K H4 b ws := by rw [hK]; exact ex_l hid_ex lb
  obtain ⟨zb, its2, n2, r2, eb⟩ := lst_obj hL I5 lb'
  obtain ⟨zp, its, n, rp, ep⟩ := I5.hok p0 _ hp
  have tp : T3 p0 := by
    have : OwnP e3 F3 p0 := ⟨k, ⟨_, hk⟩, by
      obtain ⟨v', z1, z2⟩ := at3.re.slot k _ hk
      rw [s1] at z1
      cases z1
      have z2 : Ow G.K T3 H4 (.lst xs) (.ref p0) (F3 k) := z2
      generalize F3 k = fk at z2
      cases z2
      exact List.mem_singleton.mpr rfl⟩
    exact at3.re.sub _ this
  have ne : p0 ≠ b := fun z => by
    subst z
    rcases lb with l | ⟨o, its, n, e, _⟩
    · rcases l with l | ⟨o, l⟩ <;> exact (hid_some l).2 tp
    · have e' : X.K.lookup p0 = some o := by rw [hK]; exact e
      have nb := (I5.bs p0 o (I5.ok.mod.kin _ _ e')).2
      rw [hp] at nb
      cases nb
  cases pn4
  obtain ⟨a', rfl⟩ := Int.eq_ofNat_of_zero_le g1
  obtain ⟨c', rfl⟩ := Int.eq_ofNat_of_zero_le (Int.le_trans g1 g2)
  have lf := f1.length
  have lr := rp.length
  have l2 := r2.length
  have lfb := fb.length
  refine wpAny_bind (wpAny_standAt (wpAny_bind (wpAny_holding (setItem_slice (a := a') (c := c') ep eb ne (Heap.IsSliceOf.new _ vl vu .none) pl pu (by omega) (by rw [List.size_toArray]; omega) (by rw [List.size_toArray, List.size_toArray]; omega) ?_))))
  simp only [Int.toNat_natCast] at q
  have I6 := I5.lset (f := fun xs => xs.extract 0 a' ++ its2.toArray ++ xs.extract c' xs.size) (its' := its.take a' ++ its2 ++ its.drop c') (t' := s4.toks) hp ep (splice_eq its its2 a' c') (Vals.append (Vals.append (rp.take _) r2) (rp.drop _)) (by
    rw [List.length_append, List.length_append, List.length_take, List.length_drop]
    omega)
  have a4 := upd_ (vs.take a' ++ ws ++ vs.drop c') (xs.take a' ++ ys ++ xs.drop c') (((f1.take a').append fb).append (f1.drop c'))
  exact wpAny_release ⟨σ, _, I6, q σ T3 _ F3 a4.re ((at3.chg.hid r.sub).trans (a4.chg.hid at3.re.sub))⟩
end
end Fx

namespace Fx
open PySem PySem.Spec PyProof.Rows L2 Evl Lk
/-! ### {k: v, ..}: an owned dict of values -/
abbrev WPs := Env → (List (D × D) → Env → Prop) → Prop
def wpsNil : WPs := fun env Q => Q [] env
def wpsCons (k v : WE) (r : WPs) : WPs := fun env Q => k env fun rk e => ∃ dk, rk = .f dk ∧ v e fun rv e2 => ∃ dv, rv = .f dv ∧ r e2 fun ps e3 => Q ((dk, dv) :: ps) e3
def FzP (K : PySem.W.Frag) (H : Hp) (vs : List (V × V)) (ps : List (D × D)) : Prop := FzL K H (vs.map (·.1)) (ps.map (·.1)) ∧ FzL K H (vs.map (·.2)) (ps.map (·.2))
structure GPs (X : Cx) (G : Gx) (pos : Pos) (keys : List (Option Expr)) (values : List Expr) (w : WPs) : Prop where
  ex : ∃ trs, PPs X pos keys values trs ∧ ∀ (σ : L2.St) (T : Addr → Prop) (H : Hp) (env : Env) (F : Nat → List Addr) (Q : List (V × V) → Hp → Prop), RE G T H σ env F →
    (w env fun ps e => ∀ vs T' H' F', Att G σ T H env F T' H' e F' → FzP G.K (hid T' H') vs ps → Q vs H') → tPairs trs σ H Q
  mono : ∀ env (Q Q' : List (D × D) → Env → Prop), (∀ ps e, Q ps e → Q' ps e) → w env Q → w env Q'
def dK : Key → D
  | .inl i => .int i
  | .inr x => .str x
def wDictO (w : WPs) : WE := fun env Q => w env fun ps e => ∃ ks : List Key, ps.map (·.1) = ks.map dK ∧ ks.Nodup ∧ ks.length ≤ 15 ∧ Q (.own (.dic ks (ps.map fun p => O.f p.2))) e
section
variable {X : Cx} {G : Gx} {pos : Pos}
theorem gps_nil : GPs X G pos [] [] wpsNil := ⟨⟨[], pps_nil, fun σ T H env F Q r q => q [] T H F (.refl r) ⟨.nil, .nil⟩⟩, fun env Q Q' i q => i _ _ q⟩
theorem gps_cons {k v : Expr} {ks : List (Option Expr)} {vs : List Expr} {wk wv : WE} {w : WPs} (hk : GE X G k wk) (hv : GE X G v wv) (hr : GPs X G pos ks vs w) : GPs X G pos (some k :: ks) (v :: vs) (wpsCons wk wv w) := by
  obtain ⟨trs, p, run⟩ := hr.ex
  refine ⟨⟨_, pps_cons hk.pe hv.pe p, fun σ T H env F Q r q => ⟨T, env, F, r, hk.mono _ _ _ (fun rk e ⟨dk, h1, q⟩ x T1 H1 F1 f1 a1 z1 => ?_) q⟩⟩, fun env Q Q' i q => hk.mono _ _ _ (fun rk e ⟨dk, h1, q⟩ => ⟨dk, h1, hv.mono _ _ _ (fun rv e2 ⟨dv, h2, q⟩ => ⟨dv, h2, hr.mono _ _ _ (fun ps e3 q => i _ _ q) q⟩) q⟩) q⟩
  subst h1
  refine ⟨T1, e, F1, a1.re, hv.mono _ _ _ (fun rv e2 ⟨dv, h2, q⟩ y T2 H2 F2 f2 a2 z2 => ?_) q⟩
  subst h2
  refine run σ T2 H2 e2 F2 _ a2.re (hr.mono _ _ _ (fun ps e3 q vs T3 H3 F3 a3 fz => ?_) q)
  exact q ((x, y) :: vs) T3 H3 F3 ((a1.trans r.trk a2).trans r.trk a3) ⟨.cons (Fz.att a2.re a3 (Fz.att a1.re a2 z1.rel.1)) fz.1, .cons (Fz.att a2.re a3 z2.rel.1) fz.2⟩
theorem fzl_keys {K : PySem.W.Frag} {H : Hp} : ∀ {ks : List Key} {vs : List V}, FzL K H vs (ks.map dK) → vs = ks.map kV
  | [], _, h => by cases h; rfl
  | k :: ks, _, h => by
    cases h with
    | cons a b =>
      rw [fzl_keys b]
      cases k <;> cases a <;> rfl
theorem put_new {kvs : List (Key × V)} {k : Key} {v : V} (h : k ∉ kvs.map (·.1)) : putK kvs k v = kvs ++ [(k, v)] := by
  unfold putK
  refine if_neg fun z => h ?_
  obtain ⟨kv, m, e⟩ := List.any_eq_true.mp z
  exact List.mem_map.mpr ⟨kv, m, of_decide_eq_true e⟩
theorem merge_new : ∀ (more kvs : List (Key × V)), ((kvs ++ more).map (·.1)).Nodup → mergeK kvs more = kvs ++ more
  | [], kvs, _ => (List.append_nil kvs).symm
  | (k, v) :: more, kvs, h => by
    have e : kvs ++ (k, v) :: more = (kvs ++ [(k, v)]) ++ more := by simp
    show mergeK (putK kvs k v) more = _
    rw [put_new, e]
    · exact merge_new more _ (by rw [← e]; exact h)
    · rw [List.map_append, List.nodup_append] at h
      intro m
      exact h.2.2 k m k (by simp) rfl
theorem owl_fs {K : PySem.W.Frag} {T : Addr → Prop} {H : Hp} : ∀ {ds : List D} {vs : List V}, FzL K (hid T H) vs ds → OwL K T H (ds.map O.f) vs []
  | [], _, h => by cases h; exact .nil
  | d :: ds, _, h => by
    cases h with
    | cons a b => exact .cons (f1 := []) (.f a) (owl_fs b) (by simp)
/-- what no slot has keeps so -/
theorem att_far {σ : L2.St} {T0 T1 : Addr → Prop} {H0 H1 : Hp} {env e : Env} {F F1 : Nat → List Addr} {p : Addr} (a : Att G σ T0 H0 env F T1 H1 e F1) (hp : H0 p ≠ none) (n : ∀ k, IsS env k → p ∉ F k) : ∀ k, IsS e k → p ∉ F1 k := by
  rintro k ⟨s, hs⟩ hF
  cases s with
  | f d =>
    obtain ⟨v, _, z⟩ := a.re.slot k _ hs
    have z : Fz G.K (hid T1 H1) v d ∧ F1 k = [] := z
    rw [z.2] at hF
    cases hF
  | own o =>
    rcases a.own p ⟨k, ⟨o, hs⟩, hF⟩ with ⟨i, ⟨o', hi⟩, hF'⟩ | h
    · exact n i ⟨_, hi⟩ hF'
    · exact hp h
  | vw o =>
    obtain ⟨h1, h2⟩ := a.vw k o hs
    rw [h2] at hF
    exact n k ⟨_, h1⟩ hF
theorem ge_dictO {keys : List (Option Expr)} {values : List Expr} {w : WPs} (h : GPs X G pos keys values w) (hall : keys.all (·.isSome) = true := by rfl) (hl : keys.length = values.length := by rfl) (h0 : keys ≠ [] := by intro z; cases z) (h15 : keys.length ≤ 15 := by decide) : GE X G (.Dict keys values pos) (wDictO w) := by
  obtain ⟨trs, p, run⟩ := h.ex
  refine ⟨pe_imp (pe_disp p hall hl h0 h15) fun σ H Q ⟨T, env, F, r, q⟩ => ?_, fun env Q Q' i q => h.mono _ _ _ (fun ps e ⟨ks, h1, h2, h3, q⟩ => ⟨ks, h1, h2, h3, i _ _ q⟩) q⟩
  intro p np
  have a0 := att_new (o := HO.dK []) r np
  have far0 : ∀ k, IsS env k → p ∉ F k := fun k ⟨s, hs⟩ hF => by
    obtain ⟨v, _, z⟩ := r.slot k s hs
    exact r.trk p (z.sub p hF) np
  refine run σ _ _ env F _ a0.re (h.mono _ _ _ (fun ps e ⟨ks, h1, h2, h3, q⟩ vs T1 H1 F1 a1 fz => ?_) q)
  have hne : (upd H p (HO.dK [])) p ≠ none := by rw [upd_same]; exact nofun
  have far1 := att_far a1 hne far0
  have nown : ¬ OwnP env F p := fun ⟨i, ⟨o, hi⟩, hF⟩ => far0 i ⟨_, hi⟩ hF
  have hp1 : H1 p = some (.dK []) := a1.chg.keep p _ upd_same nown
  have tp1 : T1 p := a1.chg.tk p (.inr rfl) nown
  obtain ⟨fk, fv⟩ := fz
  rw [h1] at fk
  have ek := fzl_keys fk
  have hlen : ks.length = (vs.map (·.2)).length := by
    have := congrArg List.length ek
    rw [List.length_map, List.length_map] at this
    rw [List.length_map]
    exact this.symm
  let kvs : List (Key × V) := ks.zip (vs.map (·.2))
  have hfst : kvs.map (·.1) = ks := List.map_fst_zip (by rw [hlen]; exact Nat.le_refl _)
  have hm : mergeK [] kvs = kvs := merge_new kvs [] (by rw [List.nil_append, hfst]; exact h2)
  refine ⟨hp1, kvs, ?_, by rw [List.length_zip, ← hlen, Nat.min_self]; exact h3, ?_⟩
  · have e2 : ∀ (vs : List (V × V)) (ks : List Key), vs.map (·.1) = ks.map kV → vs = (ks.zip (vs.map (·.2))).map fun kv => (kV kv.1, kv.2) := by
      intro vs
      induction vs with
      | nil => intro ks e; cases ks <;> first | rfl | cases e
      | cons v vs ih =>
        intro ks e
        cases ks with
        | nil => cases e
        | cons k ks =>
          rw [List.map_cons, List.map_cons] at e
          have e1 := List.head_eq_of_cons_eq e
          have e2 := List.tail_eq_of_cons_eq e
          exact congr (congrArg List.cons (Prod.ext e1 rfl)) (ih ks e2)
    exact e2 vs ks ek
  · rw [hm]
    have c : Chg T1 H1 (fun x => x = p) T1 (upd H1 p (.dK kvs)) := Chg.write a1.re.trk rfl
    have g0 : G.P0 p ∨ G.H0 p = none := .inr (by
      cases e : G.H0 p with
      | none => rfl
      | some u => exact absurd np (r.st.dom p (by rw [e]; exact nofun)))
    have re := a1.re.chg c (fun a ha => by rw [ha]; exact tp1) (fun a ha => by rw [ha]; exact g0) fun i hi a ha z => far1 i hi (by rw [← z]; exact ha)
    have a01 := a0.trans r.trk a1
    have at2 : Att G σ T H env F T1 (upd H1 p (.dK kvs)) e F1 := ⟨a01.chg.trans r.trk c fun a ha => .inr (by rw [ha]; exact np), re, a01.own, a01.vw⟩
    have ex : Ex (hid T1 H1) (hid T1 (upd H1 p (.dK kvs))) := c.hid fun a ha => by rw [ha]; exact tp1
    refine q (.ref p) T1 _ F1 [p] at2 ⟨?_, fun _ _ i hi a ha => by rw [List.mem_singleton.mp ha]; exact far1 i hi, fun _ _ a ha => .inr (by rw [List.mem_singleton.mp ha]; exact np)⟩
    have ol := owl_fs (T := T1) (H := upd H1 p (.dK kvs)) (fv.ex ex)
    rw [List.map_map] at ol
    have fin : Ow G.K T1 (upd H1 p (.dK kvs)) (.dic ks (ps.map fun p => O.f p.2)) (.ref p) [p] := .dic (ks := ks) (vs := vs.map fun z : V × V => z.2) (fp := []) tp1 upd_same hlen ol (by simp)
    exact fin
end
/-! ### d.get(k) of a dict value -/
def getD (ks : List Key) (ds : List D) (k : Key) : D := (((ks.zip ds).find? fun kv => decide (kv.1 = k)).map (·.2)).getD .non
def wGet (w1 w2 : WE) : WE := fun env Q => w1 env fun r e => ∃ ks ds, r = .f (.dic ks ds) ∧ w2 e fun r2 e2 => ∃ k : Key, r2 = .f (dK k) ∧ Q (.f (getD ks ds k)) e2
section
variable {X : Cx} {G : Gx} {o e : Expr} {w1 w2 : WE} {apos cpos : Pos}
theorem fz_dK {K : PySem.W.Frag} {H : Hp} {v : V} {k : Key} (h : Fz K H v (dK k)) : v = kV k := by
  cases k <;> cases h <;> rfl
theorem fz_get {K : PySem.W.Frag} {H : Hp} {k : Key} : ∀ {ks : List Key} {vs : List V} {ds : List D}, FzL K H vs ds → Fz K H ((valV (ks.zip vs) k).getD .non) (getD ks ds k)
  | [], _, _, _ => .non
  | _ :: _, _, _, .nil => .non
  | k0 :: ks, _, _, .cons (v := v) (vs := vs) (d := d) (ds := ds) a b => by
    by_cases h : k0 = k
    · have e1 : valV ((k0 :: ks).zip (v :: vs)) k = some v := valV_pos h
      have e2 : getD (k0 :: ks) (d :: ds) k = d := by simp [getD, List.find?_cons, h]
      rw [e1, e2]
      exact a
    · have e1 : valV ((k0 :: ks).zip (v :: vs)) k = valV (ks.zip vs) k := valV_neg h
      have e2 : getD (k0 :: ks) (d :: ds) k = getD ks ds k := by simp [getD, List.find?_cons, h]
      rw [e1, e2]
      exact fz_get b
theorem ge_get (hu : X.A.units + 65 < cLine) (ho : GE X G o w1) (he : GE X G e w2) (m : M1 X o "get" apos e cpos) : GE X G (.Call (.Attribute o "get" apos) [e] [] cpos) (wGet w1 w2) := by
  refine ⟨pe_imp (pe_dget1 (by omega) ho.pe he.pe m) fun σ H Q ⟨T, env, F, r, q⟩ => ⟨T, env, F, r, ho.mono _ _ _ (fun s e ⟨ks, ds, hs, q⟩ x T1 H1 F1 f1 a1 z1 => ?_) q⟩, fun env Q Q' i q => ho.mono _ _ _ (fun s e ⟨ks, ds, hs, q⟩ => ⟨ks, ds, hs, he.mono _ _ _ (fun s2 e2 ⟨k, h1, q⟩ => ⟨k, h1, i _ _ q⟩) q⟩) q⟩
  subst hs
  have fz1 : Fz G.K (hid T1 H1) x (.dic ks ds) := z1.rel.1
  cases fz1 with
  | dic l hl f =>
    rename_i a vs
    have isd : ∀ {H : Hp}, Rd H a (.dK (ks.zip vs)) → IsD H a := fun h => by
      rcases h with h | ⟨o, h⟩
      · exact .inl ⟨_, .inl h⟩
      · exact .inl ⟨_, .inr ⟨o, h⟩⟩
    have un : Rd H1 a (.dK (ks.zip vs)) := by
      rcases l with l | ⟨o, l⟩
      · exact .inl (hid_some l).1
      · exact .inr ⟨o, (hid_some l).1⟩
    refine ⟨a, rfl, isd un, T1, e, F1, a1.re, he.mono _ _ _ (fun s2 e2 ⟨k, h1, q⟩ y T2 H2 F2 f2 a2 z2 => ?_) q⟩
    subst h1
    have ey := fz_dK z2.rel.1
    subst ey
    have ex := a2.chg.hid a1.re.sub
    have un2 : Rd H2 a (.dK (ks.zip vs)) := by
      rcases l with l | ⟨o, l⟩
      · exact .inl (hid_some (ex a _ l)).1
      · exact .inr ⟨o, (hid_some (ex a _ l)).1⟩
    refine ⟨valV (ks.zip vs) k, .inl ⟨_, k, un2, rfl, rfl⟩, ?_⟩
    exact q _ T2 H2 F2 [] (a1.trans r.trk a2) (res_f (fz_get (f.ex ex)))
end
end Fx

/-! defs that are called while an exception is handled, the exception tracked -/
namespace L2H
open PySem PySem.Spec PyProof.Rows
theorem RoomH.units {k : Nat} {A : Around} (r : RoomH k A) : A.units + 64 < cLine := by have := r.un; omega
theorem RoomH.u65 {k : Nat} {A : Around} (r : RoomH k A) : A.units + 65 < cLine := by have := r.un; omega
end L2H
namespace L2
open PySem PySem.Spec PyProof.Rows L2H
/-- as FnOk, whatever is handled -/
structure FnU (P : Program) (w : World) (K : PySem.W.Frag) (mg : Str → Option Value) (base : Heap) (k : Nat) (f : Addr) (fd : FuncData) (ps : List Str) (sp : Sp) : Prop where
  len : ∀ vs H Q E, sp vs H Q E → vs.length = ps.length
  run : ∀ (A : Around) (outer : List Env) (s : Shared) (H : Hp) (args : Args) (us : List Value) (vs : List V) (Q : VK) (E : XK), RoomH k A → Env0 P w K mg base A outer s H → BindsTo s fd args (ps.zip us) → Vals vs us → sp vs H Q E →
    codeAny (model P w) A (.call (.ref f) args) (CR CX0 outer P w H s Q E) s
/-- the context of its body -/
abbrev cxU (P : Program) (w : World) (K : PySem.W.Frag) (mg : Str → Option Value) (base : Heap) (N : List Str) (qual : Str) (scope : Scope) (f : Addr) (cd : Value) (A : Around) (outer : List Env) (s : Shared) (H : Hp) (E : XK) : Cx :=
  { cxOf CX0 P w K mg base N qual scope f cd A outer s H E with calm := false }
section
variable {P : Program} {w : World} {K : PySem.W.Frag} {mg : Str → Option Value} {base : Heap} {N ps : List Str} {qual : Str} {scope : Scope} {f : Addr} {A : Around} {outer : List Env} {s s1 : Shared} {H : Hp} {E : XK} {us : List Value} {vs : List V}
theorem inv_startU {cd : Value} (S : FnScope N ps scope) (e0 : Env0 P w K mg base A outer s H) (hl : vs.length = ps.length) (r : Vals vs us)
    (x : InCallC s s.heap.objs.size (bindL (envOfC qual scope s.heap.objs.size f cd).kindOf (ps.zip us) fun _ => none) (cellsFrom (s.heap.objs.size + 1) scope.names []) (bindC (envOfC qual scope s.heap.objs.size f cd).kindOf (ps.zip us) fun _ => none) s1) :
    Inv (cxU P w K mg base N qual scope f cd A outer s H E) [] (start N vs) H s1 := by
  have J : Inv (cxOf CX0 P w K mg base N qual scope f cd { A with handled := none } outer s H E) [] (start N vs) H s1 := inv_start S rfl ⟨e0.frames, e0.mod, e0.bs, e0.bsz, e0.funs, e0.frf, e0.hok, e0.bare⟩ hl r x
  exact ⟨⟨J.ok.mod, J.ok.kind, J.ok.glob, J.ok.blt, J.ok.above, J.ok.inj, J.ok.has, J.ok.cab, nofun, Around.frames_deeper e0.frames, J.ok.stk, J.ok.exf, J.ok.bs, J.ok.bsz, J.ok.noex, J.ok.exfs, J.ok.funs, J.ok.frf⟩, J.os, J.bare, J.base, J.loc, J.cell, J.free, J.freeC, J.pin, J.hok, J.len⟩
theorem fn_ofU {k : Nat} {name : Str} {params : Arguments} {body : List Stmt} {dV kV doc pm cdv ct oc : Value} {an od : Option Addr} {osl : Array (Option Value)} {sp : Sp} (lk : K.lookup f = some ⟨oc, od, .func (PySem.W.fnOf name qual params body scope dV kV doc pm an cdv ct), osl⟩) (hcd : PySem.W.codeIn K cdv qual = true) (S : FnScope N ps scope)
    (len : ∀ vs H Q E, sp vs H Q E → vs.length = ps.length)
    (hbody : ∀ (A : Around) (outer : List Env) (s : Shared) (H : Hp) (vs : List V) (Q : VK) (E : XK), RoomH k (A.deeper (envOfC qual scope s.heap.objs.size f cdv)) → sp vs H Q E →
      ∃ t, PSs (cxU P w K mg base N qual scope f cdv A outer s H E).nox body t ∧ t { nx := fun _ H' => Q .non H', rt := Q } (start N vs) H) :
    FnU P w K mg base (k + 1) f (PySem.W.fnOf name qual params body scope dV kV doc pm an cdv ct) ps sp := by
  refine ⟨len, fun A outer s H args us vs Q E hr e0 hb r hsp => ?_⟩
  have bs : ∀ b o, base.get? b = some o → s.heap.get? b = some o := fun b o e => (e0.bs b o e).1
  have KX := e0.mod.kin.keeps bs
  have kinds : ∀ y ∈ ps.zip us, scope.names.lookup y.1 = some .local ∨ (scope.names.lookup y.1 = some .cell ∧ ((cellsFrom (s.heap.objs.size + 1) scope.names []).lookup y.1).isSome = true) := fun ⟨n, v⟩ hy =>
    (S.par n (List.of_mem_zip hy).1).imp id fun q => ⟨q, PySem.W.cellsFrom_some _ _ _ (.inl q)⟩
  refine codeAny_call_function hr.depth (KX _ _ lk) rfl S.co S.gen rfl (PySem.W.codeRec_of KX hcd) (hb _ _ _ _ (wpAny_newFunctionEnv_cells S.kind kinds fun env he s1 x => ?_))
  subst he
  refine ⟨(e0.mod.nolimit.keeps bs).keeps x.toInCall.keep, codeAny_func ?_⟩
  obtain ⟨t, ht, hq⟩ := hbody A outer s H vs Q E (hr.deeper _) hsp
  refine wpAny_mono (ht.nox.run [] s1 (start N vs) H _ (inv_startU S e0 (len _ _ _ _ hsp) r x) hq) (fun fl s' hs => ?_) fun e s' hs => hs
  cases fl with
  | ret u =>
    obtain ⟨v, σ', H', J, rv, q⟩ := hs
    exact ⟨v, H', J.os, J.bare, J.base, J.hok, rv, q⟩
  | next =>
    obtain ⟨σ', H', J, q⟩ := hs
    exact ⟨V.non, H', J.os, J.bare, J.base, J.hok, rfl, q⟩
  | brk =>
    obtain ⟨_, _, _, q⟩ := hs
    exact q.elim
  | cont =>
    obtain ⟨_, _, _, q⟩ := hs
    exact q.elim
end
section
variable {X : Cx} {x : Str} {p pos : Pos} {k j : Nat} {sp : Sp} {e : Expr} {es : List Expr} {ta : TA}
theorem pe_callU {f : Addr} {fd : FuncData} {ps : List Str} (F : FnU X.prog X.w X.K X.mg X.base k f fd ps sp) (hr : RoomH j X.A) (hk : k ≤ j) (hg : Gl X x) (hm : X.mg x = some (.ref f)) (kp : PySem.W.keepIn X.K (.ref f) = true) (b : Binds X.K fd ps []) (ha : PA X (e :: es) ta)
    (hdb : (x == ("__debug__" : Str)) = false := by decide) (he : starEach (e :: es) X.env = (false, eval e X.env) :: starEach es X.env := by rfl) (hpl : (backTo pos (starEach es X.env)).any (·.1) = false := by rfl) :
    PE X (.Call (.Name x p) (e :: es) [] pos) (fun σ H Q => ta σ H fun vs H1 => sp vs H1 Q fun _ _ _ => False) := by
  refine ⟨fun pins s σ H Q I h => ?_⟩
  refine wpAny_Call_Name_kw (ld_glob I hg hm ?_ hdb)
  refine PySem.W.callWith_K (h₀ := X.base) I.ok.mod.kin kp (thn (ha.run pos pins s σ H _ I h) fun us s1 ⟨vs, H1, I1, r1, q1⟩ => ⟨I1.kIn, ?_⟩) he hpl
  have lv := F.len _ _ _ _ q1
  refine wpAny_call (codeAny_mono (F.run X.A X.stack s1 H1 ⟨us, []⟩ us vs Q _ (hr.mono hk) I1.env0 (by have := b s1 us I1.kIn (by rw [List.append_nil, ← r1.length]; exact lv); rw [List.append_nil] at this; exact this) r1 q1) fun r s' hq => ?_)
  cases r with
  | error e => exact False.elim hq
  | ok fl =>
    cases fl with
    | ret u => exact I1.after hq
    | next => exact False.elim hq
    | brk => exact False.elim hq
    | cont => exact False.elim hq
end
end L2

namespace Fx
open PySem PySem.Spec PyProof.Rows L2 L2H Evl Lk
/-! ### defs that are called in except suites -/
structure CalU (P : Program) (w : World) (K : PySem.W.Frag) (mg : Str → Option Value) (base : Heap) (k : Nat) (x : Str) (sp : Sp) : Prop where
  ex : ∃ (f : Addr) (fd : FuncData) (ps : List Str), FnU P w K mg base k f fd ps sp ∧ mg x = some (.ref f) ∧ PySem.W.keepIn K (.ref f) = true ∧ Binds K fd ps []
section
variable {P : Program} {w : World} {K : PySem.W.Frag} {mg : Str → Option Value} {base : Heap} {x q : Str} {st : Stmt} {N ps : List Str} {k : Nat} {tabs : List Addr}
theorem ofU {sp : Sp} (A : At K mg x st ps) (h : ∀ f fd, Fun K x x st f fd → FnU P w K mg base k f fd ps sp) : CalU P w K mg base k x sp := by
  obtain ⟨f, fd, F1, g, b⟩ := A.ex
  exact ⟨⟨f, fd, ps, h f fd F1, g, F1.kp, b⟩⟩
theorem fx_fnW {W : WD} {f : Addr} {fd : FuncData} (fl : List Bool) (F : Fun K x q st f fd) (S : FnScope N ps (defScope st)) (hlen : ∀ as Q, W as Q → as.length = ps.length)
    (hbody : ∀ (cdv : Value) (A : Around) (outer : List PySem.Env) (s : Shared) (H : Hp) (E : XK) (T : Addr → Prop) (P0 : Addr → Prop) (σ0 : L2.St), fd.code = cdv → RoomH k (A.deeper (envOfC q (defScope st) s.heap.objs.size f cdv)) →
      ∃ ws, GSs (cxU P w K mg base N q (defScope st) f cdv A outer s H E).nox ⟨K, tabs, T, H, P0, σ0, fun i => fl.getD i false, fun _ _ => False, fun _ => none⟩ (defBody st) ws ∧
        ∀ as Q, W as Q → ws { nx := fun env => OutOk fl as env ∧ Q (.f .non) (outA fl as env), rt := fun r env => OutOk fl as env ∧ Q r (outA fl as env) } (startE N as)) : FnU P w K mg base (k + 1) f fd ps (spW K tabs W) := by
  have lenV : ∀ vs H Q E, spW K tabs W vs H Q E → vs.length = ps.length := fun vs H Q E ⟨T, as, F, r, h⟩ => by
    rw [spW_len r]
    exact hlen as _ h
  suffices main : ∀ (cdv : Value) (A : Around) (outer : List PySem.Env) (s : Shared) (H : Hp) (vs : List V) (Q : VK) (E : XK), fd.code = cdv → RoomH k (A.deeper (envOfC q (defScope st) s.heap.objs.size f cdv)) → spW K tabs W vs H Q E →
      ∃ t, PSs (cxU P w K mg base N q (defScope st) f cdv A outer s H E).nox (defBody st) t ∧ t { nx := fun _ H' => Q .non H', rt := Q } (L2.start N vs) H by
    obtain ⟨oc, od, kV, doc, pm, an, cdv, ct, osl, rfl, lk, hcd⟩ := F.ex
    exact fn_ofU lk hcd S lenV fun A outer s H vs Q E hr hsp => main cdv A outer s H vs Q E rfl hr hsp
  intro cdv A outer s H vs Q E hcd hr ⟨T, as, F, r, hW⟩
  obtain ⟨ws, hs, hq⟩ := hbody cdv A outer s H E T (OwnP (as.map some) F) (L2.start N vs) hcd hr
  refine ⟨_, hs.pss, T, startE N as, F, in_re r, ?_⟩
  let Qs : Sl → List Sl → Prop := fun r as' => ∀ v T' H' F' fr, RE (gA K tabs T H as F vs) T' H' (vs.map some) (as'.map some) F' → (∀ j o, as'[j]? = some (.vw o) → as[j]? = some (.vw o) ∧ F' j = F j) → ResS (gA K tabs T H as F vs) T' H' (as'.map some) F' r v fr → Q v H'
  refine hs.mono { nx := fun env => OutOk fl as env ∧ Qs (.f .non) (outA fl as env), rt := fun r env => OutOk fl as env ∧ Qs r (outA fl as env) } _ _ ⟨fun env ⟨oo, q⟩ σ' T' H' F' r' _ => ?_, fun s1 env ⟨oo, q⟩ v σ' T' H' F' fr r' z => ?_, fun _ h => h.elim, fun _ h => h.elim⟩ (hq as _ hW)
  · obtain ⟨F2, g1, g2, g3⟩ := out_re r oo r'
    exact q .non T' H' F2 [] g1 g2 (g3 (.f .non) .non [] ⟨⟨.non, rfl⟩, nofun, nofun, nofun⟩)
  · obtain ⟨F2, g1, g2, g3⟩ := out_re r oo r'
    exact q v T' H' F2 fr g1 g2 (g3 s1 v fr z)
theorem fx_fnWF {W : WFn} {f : Addr} {fd : FuncData} (F : Fun K x x st f fd) (S : FnScope N ps (defScope st)) (hlen : ∀ ds Q, W ds Q → ds.length = ps.length)
    (hbody : ∀ (cdv : Value) (A : Around) (outer : List PySem.Env) (s : Shared) (H : Hp) (E : XK) (T : Addr → Prop) (P0 : Addr → Prop) (σ0 : L2.St), fd.code = cdv → RoomH k (A.deeper (envOfC x (defScope st) s.heap.objs.size f cdv)) →
      ∃ ws, GSs (cxU P w K mg base N x (defScope st) f cdv A outer s H E).nox ⟨K, tabs, T, H, P0, σ0, fun i => (List.replicate ps.length false).getD i false, fun _ _ => False, fun _ => none⟩ (defBody st) ws ∧
        ∀ ds Q, W ds Q → ws ⟨fun env => ps.length ≤ env.length ∧ Q (.f .non), fun r env => ps.length ≤ env.length ∧ Q r, fun _ => False, fun _ => False⟩ (startE N (ds.map Sl.f))) : FnU P w K mg base (k + 1) f fd ps (spW K tabs (liftF W)) := by
  refine fx_fnW (List.replicate ps.length false) F S (fun as Q ⟨ds, h, q⟩ => by rw [h, List.length_map]; exact hlen _ _ q) fun cdv A outer s H E T P0 σ0 hcd hr => ?_
  obtain ⟨ws, h1, h2⟩ := hbody cdv A outer s H E T P0 σ0 hcd hr
  refine ⟨ws, h1, fun as Q ⟨ds, h, q⟩ => ?_⟩
  subst h
  have hl := hlen _ _ q
  refine h1.mono _ _ _ ?_ (h2 ds _ q)
  refine ⟨fun env ⟨l, q⟩ => ?_, fun r env ⟨l, q⟩ => ?_, fun _ h => h.elim, fun _ h => h.elim⟩
  · obtain ⟨a, b⟩ := outOk_f ds env (by rw [hl]; exact l)
    rw [hl] at a b
    exact ⟨a, by rw [b]; exact q⟩
  · obtain ⟨a, b⟩ := outOk_f ds env (by rw [hl]; exact l)
    rw [hl] at a b
    exact ⟨a, by rw [b]; exact q⟩
end
section
variable {X : Cx} {G : Gx} {e : Expr} {es : List Expr} {wd : WAD} {x : Str} {k j : Nat} {tabs : List Addr} {p pos : Pos} {W : WFn}
theorem ge_callW (c : CalU X.prog X.w X.K X.mg X.base k x (spW X.K tabs (liftF W))) (hr : RoomH j X.A) (hk : k ≤ j) (hg : Gl X x) (hK : X.K = G.K) (ht : tabs = G.tabs) (mW : MonoF W) (ha : GD X G (e :: es) wd)
    (hdb : (x == ("__debug__" : Str)) = false := by decide) (he : starEach (e :: es) X.env = (false, eval e X.env) :: starEach es X.env := by rfl) (hpl : (backTo pos (starEach es X.env)).any (·.1) = false := by rfl) :
    GE X G (.Call (.Name x p) (e :: es) [] pos) (wCallF W wd) := by
  subst ht
  obtain ⟨f, fd, ps, F, hm, kp, b⟩ := c.ex
  refine ge_imp (⟨pe_imp (pe_callU F hr hk hg hm kp b ha.ga.pa hdb he hpl) fun σ H Q ⟨T, env, F, r, q⟩ => ⟨T, env, F, r, ha.ga.mono _ _ _ (fun ags e1 h vs T1 H1 F1 Fa a1 z1 => ?_) (call_core r (mono_liftF mW) ha.ga.mono hK q)⟩, mono_call (mono_liftF mW) ha.ga.mono⟩ : GE X G _ (wCall (liftF W) _)) (fun _ _ q => callF_call mW ha.mono q) (mono_callF mW ha.mono)
  exact (h vs T1 H1 F1 Fa a1 z1).2
end

/-! ### isinstance(x, (A, B, ..)) -/
def tkL : List D → Option (List Value)
  | [] => some []
  | .ty m :: r => match tkV m, tkL r with
    | some c, some l => some (c :: l)
    | _, _ => none
  | _ => none
def cIsT (K : PySem.W.Frag) : OpC
  | [.ty (.exc C _), .tup ms], Q => ∃ l b, tkL ms = some l ∧ ExcC K C ∧ PySem.W.kitAny K (.ref C) l = some b ∧ Q (.bl b)
  | _, _ => False
section
variable {X : Cx} {G : Gx}
theorem tkL_of {K : PySem.W.Frag} {H : Hp} : ∀ {ms : List D} {vs : List V} {us : List Value} {l : List Value}, FzL K H vs ms → Vals vs us → tkL ms = some l → us = l
  | [], _, _, _, .nil, .nil, e => by cases e; rfl
  | .ty m :: ms, _, _, l, .cons a b, .cons r t, e => by
    unfold tkL at e
    cases hm : tkV m with
    | none => rw [hm] at e; cases e
    | some c =>
      cases hl : tkL ms with
      | none => rw [hm, hl] at e; cases e
      | some l' =>
        rw [hm, hl] at e
        cases e
        rw [tkL_of b t hl]
        congr 1
        cases m with
        | bt n => cases a; cases hm; exact r
        | cls C => cases a; cases hm; exact r
        | exc C r => cases hm
theorem cax_isT (hK : X.K = G.K := by rfl) : CaX X G (.builtin "isinstance") (cIsT X.K) := by
  refine ⟨fun pins s σ H xs us Q I rv ⟨T, ds, t, c, q⟩ => ?_, fun a Q Q' i q => ?_⟩
  · unfold cIsT at q
    split at q
    · obtain ⟨v, v2, rfl, c1, c2⟩ := cz2 c
      obtain ⟨l, b, e, hC, hb, q⟩ := q
      obtain ⟨u1, u2, rfl, r1, r2⟩ := vals2 rv
      cases c1 with
      | exc h1 h2 =>
        cases r1
        have c2 : Fz G.K (hid T H) v2 (.tup _) := c2
        cases c2 with
        | tup lt f =>
          cases r2
          have lt' := ex_t (K := G.K) hid_ex lt
          rw [← hK] at lt'
          obtain ⟨its, r, pl, hz⟩ := I.tuple lt'
          obtain ⟨⟨cls, dd, data, sl⟩, ho, hc, n, hd⟩ := pl
          simp only at hc hd
          subst hc hd
          obtain rfl := tkL_of f r e
          obtain ⟨oe, od, J⟩ := exc_inst I (hid_some h1).1 (h2.ex hid_ex)
          exact PySem.W.kia_tup (PySem.W.kitx_excO hC.hg hC.hk hC.hs hC.hd hC.ha hC.hn hC.ht hC.hm) I.kIn J ho hb (fun z => nomatch z) fun tk => ⟨.bl b, H, I.tok tk, rfl, q _ H (Ex.refl H) (.bl b)⟩
    · exact q.elim
  · unfold cIsT at q ⊢
    split at q
    · obtain ⟨l, b, h1, h2, h3, q⟩ := q
      exact ⟨l, b, h1, h2, h3, i _ q⟩
    · exact q.elim
end
end Fx

namespace Fx
open PySem PySem.Spec PyProof.Rows L2 L2H Evl Lk
/-! ### text.split(sep), owned -/
def wSplitO (w1 w2 : WE) : WE := fun env Q => w1 env fun r1 e1 => ∃ a, r1 = .f (.str a) ∧ w2 e1 fun r2 e2 => ∃ b, r2 = .f (.str b) ∧ (b.length == 0) = false ∧ a.length + 2 ≤ sizeLine ∧ Q (.own (.lst ((Txt.split a b).map D.str))) e2
section
variable {X : Cx} {G : Gx} {e : Expr} {w w1 w2 : WE}
theorem ge_splitO {o : Expr} {apos pos : Pos} (ho : GE X G o w1) (he : GE X G e w2) (hs : starEach [e] X.env = [(false, eval e X.env)] := by rfl) (hbase : attributeBase o "split" X.env (eval o X.env) = eval o X.env := by rfl) (hline : (apos.endLine == pos.line) = true := by rfl) :
    GE X G (.Call (.Attribute o "split" apos) [e] [] pos) (wSplitO w1 w2) := by
  refine ⟨pe_imp (pe_split ho.pe he.pe hs hbase hline) fun σ H Q ⟨T, env, F, r, q⟩ => ⟨T, env, F, r, ho.mono _ _ _ (fun s e ⟨a, hs, q⟩ x T1 H1 F1 f1 a1 z1 => ?_) q⟩, fun env Q Q' i q => ho.mono _ _ _ (fun s e ⟨a, hs, q⟩ => ⟨a, hs, he.mono _ _ _ (fun s2 e2 ⟨b, h1, h2, h3, q⟩ => ⟨b, h1, h2, h3, i _ _ q⟩) q⟩) q⟩
  subst hs
  have zr := z1.rel.1
  cases zr
  refine ⟨⟨a, rfl⟩, T1, e, F1, a1.re, he.mono _ _ _ (fun s2 e2 ⟨b, h1, h2, h3, q⟩ y T2 H2 F2 f2 a2 z2 => ?_) q⟩
  subst h1
  have zr := z2.rel.1
  cases zr
  refine ⟨a, b, rfl, rfl, h2, h3, fun p np => ?_⟩
  have a12 := a1.trans r.trk a2
  have fz := fzl_strs (K := G.K) (H := hid T2 H2) (Txt.split a b)
  exact q _ _ _ F2 [p] (a12.trans r.trk (att_new a2.re np)) (res_trans r.trk a12 (own_new a2.re np (.lst (.inr rfl) upd_same (fz.ex (hid_new np)))))
/-! ### x[lo:hi], x a slot that owns a list -/
def wSlO (k : Nat) (lo hi : WO) : WE := fun env Q => ∃ ds, env[k]? = some (some (.own (.lst ds))) ∧ lo env fun l e2 => hi e2 fun u e3 => ∃ ds2, e3[k]? = some (some (.own (.lst ds2))) ∧ Q (.f (.lst (cutD ds2 l u))) e3
theorem ge_slO {lo hi : Option Expr} {wl wh : WO} {k : Nat} {pos p2 : Pos} (he : PE X e (tVar k)) (hl : GO X G lo wl) (hu : GO X G hi wh) (hK : X.K = G.K := by rfl) : GE X G (.Subscript e (.Slice lo hi none p2) pos) (wSlO k wl wh) := by
  refine ⟨pe_imp (pe_slice (r := fun x lo hi H Q => ∃ a vs, x = .ref a ∧ SqL X.K H a vs ∧ ∀ p, H p = none → Q (.ref p) (upd H p (.lst (cutV vs lo hi)))) (fun pins s σ H x v vl vu lo hi sl Q I rx hs pl pu h => sl_list pins s σ H x v vl vu lo hi sl Q I rx hs pl pu h) he hl.po hu.po) fun σ H Q ⟨T, env, F, r, ds, hk, q⟩ => ?_, fun env Q Q' i ⟨ds, hk, q⟩ => ⟨ds, hk, hl.mono _ _ _ (fun l e2 q => hu.mono _ _ _ (fun u e3 ⟨ds2, h, q⟩ => ⟨ds2, h, i _ _ q⟩) q) q⟩⟩
  obtain ⟨p0, vs0, s1, hp0, _, _⟩ := own_lst r hk
  refine ⟨_, s1, T, env, F, r, hl.mono _ _ _ (fun l e2 q T2 H2 F2 a2 => ⟨T2, e2, F2, a2.re, hu.mono _ _ _ (fun u e3 ⟨ds2, h2, q⟩ T3 H3 F3 a3 => ?_) q⟩) q⟩
  have a23 := a2.trans r.trk a3
  obtain ⟨p1, vs, s2, hp, f, _⟩ := own_lst a3.re h2
  rw [s1] at s2
  cases s2
  refine ⟨p0, vs, rfl, SqL.of hp, fun p np => ?_⟩
  have f2 := f.cut l u
  exact q _ T3 _ F3 [] (a23.trans r.trk (Att.ex a3.re (Ex.new np))) (res_f (fz_new_l a3.re.trk np f2))
end
/-! ### steps of walks -/
section
variable {w1 w2 : WE} {wl wh : WO} {env : Env} {Q : Sl → Env → Prop} {w r : WPs} {QP : List (D × D) → Env → Prop}
theorem x_splitO (h : w1 env fun r1 e1 => ∃ a, r1 = .f (.str a) ∧ w2 e1 fun r2 e2 => ∃ b, r2 = .f (.str b) ∧ (b.length == 0) = false ∧ a.length + 2 ≤ sizeLine ∧ Q (.own (.lst ((Txt.split a b).map D.str))) e2) : wSplitO w1 w2 env Q := h
theorem x_slO {k : Nat} {ds : List D} (hk : env[k]? = some (some (.own (.lst ds)))) (h : wl env fun l e2 => wh e2 fun u e3 => ∃ ds2, e3[k]? = some (some (.own (.lst ds2))) ∧ Q (.f (.lst (cutD ds2 l u))) e3) : wSlO k wl wh env Q := ⟨ds, hk, h⟩
theorem x_exOl {k : Nat} {e : Env} {ds : List D} {p : List D → Prop} (hk : e[k]? = some (some (.own (.lst ds)))) (h : p ds) : ∃ ds2, e[k]? = some (some (.own (.lst ds2))) ∧ p ds2 := ⟨ds, hk, h⟩
theorem x_dictO (h : w env fun ps e => ∃ ks : List Key, ps.map (·.1) = ks.map dK ∧ ks.Nodup ∧ ks.length ≤ 15 ∧ Q (.own (.dic ks (ps.map fun p => O.f p.2))) e) : wDictO w env Q := h
theorem x_psC (h : w1 env fun rk e => ∃ dk, rk = .f dk ∧ w2 e fun rv e2 => ∃ dv, rv = .f dv ∧ r e2 fun ps e3 => QP ((dk, dv) :: ps) e3) : wpsCons w1 w2 r env QP := h
theorem x_psN (h : QP [] env) : wpsNil env QP := h
theorem x_get (h : w1 env fun r e => ∃ ks ds, r = .f (.dic ks ds) ∧ w2 e fun r2 e2 => ∃ k : Key, r2 = .f (dK k) ∧ Q (.f (getD ks ds k)) e2) : wGet w1 w2 env Q := h
theorem x_setSl {k : Nat} {s : List D} {d : D} {QE : Env → Prop} (hk : env[k]? = some (some (.own (.lst s)))) (h : wl env fun l e => wh e fun u e2 => ∃ a c xs ys, l = some a ∧ u = some c ∧ d = .lst ys ∧ e2[k]? = some (some (.own (.lst xs))) ∧ 0 ≤ a ∧ a ≤ c ∧ c ≤ (xs.length : Int) ∧ xs.length + ys.length ≤ sizeLine ∧
  QE (e2.set k (some (.own (.lst (xs.take a.toNat ++ ys ++ xs.drop c.toNat)))))) : gSetSl k wl wh d env QE := ⟨⟨s, hk⟩, h⟩
end
end Fx

namespace Fx
open PySem PySem.Spec PyProof.Rows L2 Evl Lk
/-! ### len(set(xs)), xs a list of texts, as many as there are -/
/-- how many different ones -/
def dst (xs : List Str) : Nat := (SS.met (fun i => xs.getD i Str.empty) xs.length).length
def tLenSets (K : PySem.W.Frag) (ta : TE) : TE := fun σ H Q => ta σ H fun x H1 => ∃ l, ∃ xs : List Str, x = .ref l ∧ SqL K H1 l (xs.map V.str) ∧ xs.length ≤ 4000 ∧ Q (.int (dst xs : Nat)) H1
section
variable {X : Cx} {G : Gx} {w : WE}
theorem pe_lenSets {a : Expr} {ta : TE} {p p2 q pos : Pos} (hc : X.calm = true) (hg : Gl X "len") (hm : X.mg "len" = none) (hg2 : Gl X "set") (hm2 : X.mg "set" = none) (ha : PE X a ta)
    (na : starEach [a] X.env = (false, eval a X.env) :: starEach [] X.env := by rfl) : PE X (.Call (.Name "len" p) [.Call (.Name "set" p2) [a] [] q] [] pos) (tLenSets X.K ta) := by
  refine ⟨fun pins s σ H Q I h => ?_⟩
  refine Call_ (ld_blt I hg hm boot_len ?_)
  refine PyProof.Rows.callWith_builtin1 (PyProof.Rows.args_cons ?_ rfl) rfl rfl
  refine Call_ (ld_blt I hg2 hm2 boot_set ?_)
  refine PyProof.Rows.callWith_type1 (PyProof.Rows.args_cons (thn (ha.run pins s σ H _ I h) fun v s1 ⟨x, H1, I1, r1, q1⟩ => PyProof.Rows.args_nil ?_) na) na rfl
  obtain ⟨l, xs, rfl, hq, h1, q1⟩ := q1
  cases r1
  obtain ⟨its, r, pl, hz⟩ := I1.list hq
  have sa : StrsAre its xs := strsAre_of r
  have hl : its.toArray.size = xs.length := by rw [List.size_toArray, ← r.length, List.length_map]
  refine SS.call_set_strs (key := fun i => xs.getD i Str.empty) (I1.ok.hd hc) pl.isList (fun i v hv => SS.strs_at sa i v (by simpa using hv)) (by rw [hl]; unfold scanBound; omega) fun h' tk hS hk => ?_
  refine PyProof.Rows.args_nil ?_
  rw [hl] at hS
  obtain ⟨o, es, ep, t, ho, hex, hd, _, _, _, hf, hn⟩ := hS
  have I2 : Inv X pins σ H1 { s1 with heap := h', toks := tk } := I1.kept fun b o e => hk b o (Heap.lt_size e) e
  have hb := SS.met_len (fun i => xs.getD i Str.empty) xs.length
  refine call_len_set ho hex hd hf (by rw [hn]; omega) ⟨.int (dst xs : Nat), H1, I2.tok _, ⟨_, by rw [hn]; rfl⟩, q1⟩
def wLenSets (w : WE) : WE := fun env Q => w env fun r e => ∃ xs : List Str, r = .f (.lst (xs.map D.str)) ∧ xs.length ≤ 4000 ∧ Q (.f (.int (dst xs : Nat))) e
theorem ge_lenSets {a : Expr} {p p2 q pos : Pos} (hc : X.calm = true) (hg : Gl X "len") (hm : X.mg "len" = none) (hg2 : Gl X "set") (hm2 : X.mg "set" = none) (ha : GE X G a w) (hK : X.K = G.K := by rfl)
    (na : starEach [a] X.env = (false, eval a X.env) :: starEach [] X.env := by rfl) : GE X G (.Call (.Name "len" p) [.Call (.Name "set" p2) [a] [] q] [] pos) (wLenSets w) := by
  refine ⟨pe_imp (pe_lenSets hc hg hm hg2 hm2 ha.pe na) fun σ H Q ⟨T, env, F, r, q⟩ => ⟨T, env, F, r, ha.mono _ _ _ (fun s e ⟨xs, hs, h1, q⟩ x T1 H1 F1 f1 a1 z1 => ?_) q⟩, fun env Q Q' i q => ha.mono _ _ _ (fun s e ⟨xs, hs, h1, q⟩ => ⟨xs, hs, h1, i _ _ q⟩) q⟩
  subst hs
  obtain ⟨p, vs, rfl, l, f⟩ := z1.rel.cz (d := .lst (xs.map D.str)) rfl
  rw [fz_strs f] at l
  exact ⟨p, xs, rfl, by rw [hK]; exact l, h1, q _ T1 H1 F1 [] a1 (res_f (.int _))⟩
end
end Fx

namespace Fx
open PySem PySem.Spec PyProof.Rows L2 Evl Lk
/-! ### comprehensions of two fors -/
theorem wipeE_get {e : Env} : ∀ {vs : List Nat} {i : Nat}, (wipeE e vs)[i]? = if i ∈ vs then (if i < e.length then some none else none) else e[i]?
  | [], i => by simp [wipeE]
  | v :: vs, i => by
    by_cases h : i = v
    · subst h
      rw [if_pos (List.mem_cons_self ..), wipeE]
      by_cases hl : i < e.length
      · rw [if_pos hl, List.getElem?_set_self (by rw [wipeE_len]; exact hl)]
      · rw [if_neg hl, List.getElem?_eq_none (by rw [List.length_set, wipeE_len]; omega)]
    · rw [wipeE, List.getElem?_set_ne (Ne.symm h), wipeE_get (vs := vs)]
      by_cases k : i ∈ vs
      · rw [if_pos k, if_pos (List.mem_cons_of_mem _ k)]
      · rw [if_neg k, if_neg (fun z => (List.mem_cons.mp z).elim h k)]
theorem wipeE_sub {e : Env} {v1 v2 : List Nat} {k : Nat} {s : Sl} (sub : ∀ i ∈ v1, i ∈ v2) (h : (wipeE e v2)[k]? = some (some s)) : (wipeE e v1)[k]? = some (some s) := by
  obtain ⟨h1, h2⟩ := wipeE_some h
  rw [wipeE_get, if_neg (fun z => h2 (sub k z)), h1]
theorem wipeE_both {e : Env} {v1 v2 : List Nat} (sub : ∀ i ∈ v1, i ∈ v2) : wipeE (wipeE e v1) v2 = wipeE e v2 := by
  refine List.ext_getElem? fun k => ?_
  rw [wipeE_get, wipeE_get (vs := v2), wipeE_len]
  by_cases h : k ∈ v2
  · rw [if_pos h, if_pos h]
  · rw [if_neg h, if_neg h, wipeE_get, if_neg (fun z => h (sub k z))]
/-- between two turns: the frame against its state ahead of the comprehension, and the list that grows -/
structure Cst (G : Gx) (T : Addr → Prop) (H : Hp) (env : Env) (F : Nat → List Addr) (Dl : Addr) (σ' : L2.St) (vs' : List Nat) (T' : Addr → Prop) (H' : Hp) (e : Env) (F' : Nat → List Addr) (acc : List D) (vacc : List V) : Prop where
  chg : Chg T H (OwnP env F) T' H'
  re : RE G T' H' σ' (wipeE e vs') F'
  own : ∀ a, OwnP (wipeE e vs') F' a → OwnP env F a ∨ H a = none
  vw : ∀ k o, (wipeE e vs')[k]? = some (some (.vw o)) → env[k]? = some (some (.vw o)) ∧ F' k = F k
  tD : T' Dl
  hD : H' Dl = some (.lst vacc)
  fa : FzL G.K (hid T' H') vacc acc
  nF : ∀ k, IsS (wipeE e vs') k → Dl ∉ F' k
section
variable {G : Gx} {T T1 T4 : Addr → Prop} {H H1 H2 H4 : Hp} {σ σ' σ2 : L2.St} {env e e4 : Env} {F F1 F4 : Nat → List Addr} {Dl : Addr} {acc : List D} {vacc : List V} {vs v1 v2 : List Nat}
theorem Cst.ev (t : Trk T H) (c : Cst G T H env F Dl σ2 [] T1 H1 e F1 acc vacc) (a : Att G σ2 T1 H1 e F1 T4 H4 e4 F4) : Cst G T H env F Dl σ2 [] T4 H4 e4 F4 acc vacc ∧ Ex (hid T1 H1) (hid T4 H4) := by
  have n : ∀ k, IsS e k → ∀ y ∈ [Dl], y ∉ F1 k := fun k hk y hy hF => by
    rw [List.mem_singleton.mp hy] at hF
    exact c.nF k hk hF
  have nP : ¬ OwnP e F1 Dl := fun ⟨k, ⟨o, hk⟩, hF⟩ => n k ⟨_, hk⟩ Dl (List.mem_singleton.mpr rfl) hF
  have out := att_out (fr := [Dl]) c.re.trk a (fun y hy => by rw [List.mem_singleton.mp hy]; exact c.tD) n
  have x := a.chg.hid c.re.sub
  refine ⟨⟨c.chg.trans t a.chg c.own, a.re, fun y hy => ?_, fun k o hk => ?_, a.chg.tk Dl c.tD nP, a.chg.keep Dl _ c.hD nP, c.fa.ex x, fun k hk hF => out k hk Dl (List.mem_singleton.mpr rfl) hF⟩, x⟩
  · rcases a.own y hy with h | h
    · exact c.own y h
    · refine .inr ?_
      cases z : H y with
      | none => rfl
      | some u => exact absurd h (c.chg.dom y (by rw [z]; exact nofun))
  · obtain ⟨h1, h2⟩ := a.vw k o hk
    obtain ⟨h3, h4⟩ := c.vw k o h1
    exact ⟨h3, h2.trans h4⟩
theorem Cst.back (c : Cst G T H env F Dl σ2 v1 T1 H1 e F1 acc vacc) (sub : ∀ i ∈ v1, i ∈ v2) (hl : σ.length = σ2.length) (hs : ∀ k, k ∉ v2 → σ[k]? = σ2[k]?) (hp : ∀ i ∈ v2, G.prot i = false) : Cst G T H env F Dl σ v2 T1 H1 e F1 acc vacc :=
  ⟨c.chg, (by
    have r := c.re.wipeE v2
    rw [wipeE_both sub] at r
    exact r.sigma hl hs hp), fun a ⟨k, ⟨o, hk⟩, ha⟩ => c.own a ⟨k, ⟨o, wipeE_sub sub hk⟩, ha⟩, fun k o hk => c.vw k o (wipeE_sub sub hk), c.tD, c.hD, c.fa, fun k ⟨s, hk⟩ => c.nF k ⟨s, wipeE_sub sub hk⟩⟩
theorem Cst.turn {tg : Tgt} {x : V} {d : D} {xs : List D} (t : Trk T H) (c : Cst G T H env F Dl σ' vs T1 H1 e F1 acc vacc) (ex : Ex H1 H2) (fz : Fz G.K (hid T1 H2) x d) (hx : tg.get d = some xs) (hsub : ∀ j ∈ tg.js, j ∈ vs) (hp : ∀ i ∈ vs, G.prot i = false) (hlen : ∀ i ∈ vs, i < σ'.length) {R : L2.St → Hp → Prop}
    (k : ∀ σ2 F2, Cst G T H env F Dl σ2 [] T1 H2 (setE (wipeE e vs) tg.js xs) F2 acc vacc → σ2.length = σ'.length → (∀ k, k ∉ vs → σ2[k]? = σ'[k]?) → R σ2 H2) : tg.tg G.K x (wipe σ' vs) H2 R := by
  have re2 : RE G T1 H2 (wipe σ' vs) (wipeE e vs) F1 := (c.re.ex ex).sigma (wipe_length σ' vs) (fun k hk => by rw [wipe_get, if_neg hk]) hp
  have lw : ∀ j ∈ tg.js, j < (wipe σ' vs).length := fun j hj => by rw [wipe_length]; exact hlen j (hsub j hj)
  have fin : ∀ ws F2, RE G T1 H2 (setS (wipe σ' vs) tg.js ws) (setE (wipeE e vs) tg.js xs) F2 → (∀ k, k ∉ tg.js → F2 k = F1 k) → R (setS (wipe σ' vs) tg.js ws) H2 := fun ws F2 r2 f2 => by
    generalize hσ : setS (wipe σ' vs) tg.js ws = σ2 at r2
    have sg : ∀ k, k ∉ vs → σ2[k]? = σ'[k]? := fun k hk => by
      rw [← hσ, setS_out (fun z => hk (hsub k z)), wipe_get, if_neg hk]
    have ln : σ2.length = σ'.length := by rw [← hσ, setS_len, wipe_length]
    generalize henv : setE (wipeE e vs) tg.js xs = env2 at r2
    have sl2 : ∀ k s, env2[k]? = some (some s) → ((∃ d, s = .f d) ∧ F2 k = []) ∨ ((wipeE e vs)[k]? = some (some s) ∧ F2 k = F1 k) := fun k s h => by
      rw [← henv] at h
      rcases setE_s h with ⟨_, d, z⟩ | h'
      · subst z
        rw [henv] at h
        obtain ⟨v, _, z⟩ := r2.slot k _ h
        exact .inl ⟨⟨d, rfl⟩, z.2⟩
      · exact .inr ⟨h', f2 k fun z => (wipeE_some h').2 (hsub k z)⟩
    have c1 : Chg T1 H1 (OwnP (wipeE e vs) F1) T1 H2 := ⟨fun a o h _ => ex a o h, fun _ h _ => h, fun _ h => .inl h, r2.trk, ex_dom ex⟩
    refine k σ2 F2 ⟨c.chg.trans t c1 c.own, by rw [henv]; exact r2, fun a ⟨k, ⟨o, hk⟩, ha⟩ => ?_, fun k o hk => ?_, c.tD, ex Dl _ c.hD, c.fa.ex (hid_mono ex), fun k ⟨s, hk⟩ hF => ?_⟩ ln sg
    · rw [henv] at hk
      rcases sl2 k _ hk with ⟨⟨d, z⟩, _⟩ | ⟨h, z⟩
      · cases z
      · exact c.own a ⟨k, ⟨o, h⟩, by rw [← z]; exact ha⟩
    · rw [henv] at hk
      rcases sl2 k _ hk with ⟨⟨d, z⟩, _⟩ | ⟨h, z⟩
      · cases z
      · obtain ⟨h3, h4⟩ := c.vw k o h
        exact ⟨h3, z.trans h4⟩
    · rw [henv] at hk
      rcases sl2 k s hk with ⟨_, z⟩ | ⟨h, z⟩
      · rw [z] at hF; cases hF
      · rw [z] at hF; exact c.nF k ⟨s, h⟩ hF
  cases tg with
  | name j =>
    have hx : some [d] = some xs := hx
    cases hx
    obtain ⟨F2, r2, f2⟩ := RE.names (js := vs) hp (js' := [j]) hsub re2 (.cons fz .nil) lw
    exact fin [x] F2 r2 f2
  | tup ks =>
    cases d with
    | tup ds' =>
      have hx : (if ds'.length = ks.length then some ds' else none) = some xs := hx
      by_cases hl : ds'.length = ks.length
      · rw [if_pos hl] at hx
        cases hx
        cases fz with
        | tup l fl =>
          rename_i p ws
          obtain ⟨F2, r2, f2⟩ := RE.names (js := vs) hp (js' := ks) hsub re2 fl lw
          exact ⟨_, _, rfl, ex_t hid_ex l, fl.length.trans hl, gNames_of (σ := wipe σ' vs) (fl.length.trans hl) (fin ws F2 r2 f2)⟩
      · rw [if_neg hl] at hx
        cases hx
    | _ => cases hx
theorem Cst.write {y : V} {d : D} (t : Trk T H) (hn : H Dl = none) (hg : G.P0 Dl ∨ G.H0 Dl = none) (c : Cst G T H env F Dl σ' vs T1 H1 e F1 acc vacc) (z : Fz G.K (hid T1 H1) y d) :
    Cst G T H env F Dl σ' vs T1 (upd H1 Dl (.lst (vacc ++ [y]))) e F1 (acc ++ [d]) (vacc ++ [y]) ∧ Ex (hid T1 H1) (hid T1 (upd H1 Dl (.lst (vacc ++ [y])))) := by
  have c5 : Chg T1 H1 (fun a => a = Dl) T1 (upd H1 Dl (.lst (vacc ++ [y]))) := Chg.write c.re.trk rfl
  have sub5 : Sub T1 (fun a => a = Dl) := fun a h => by rw [h]; exact c.tD
  have x5 := c5.hid sub5
  exact ⟨⟨c.chg.trans t c5 (fun a h => by rw [h]; exact .inr hn), c.re.chg c5 sub5 (fun a h => by rw [h]; exact hg) fun k hk a ha h => c.nF k hk (by rw [← h]; exact ha), c.own, c.vw, c.tD, upd_same, (c.fa.append (.cons z .nil)).ex x5, c.nF⟩, x5⟩
end
/-- [e for t in xs if c for t1 in ys if c1]; vs: the comprehension's own slots, vs1: the inner for's -/
def wLc2 (wi : WI) (tg : Tgt) (vs : List Nat) (t : WT) (wi1 : WI) (tg1 : Tgt) (vs1 : List Nat) (t1 : WT) (w : WE) : WE := fun env Q => wi env fun ds e0 => ∃ J : Nat → List D → Env → Prop, J 0 [] e0 ∧
  (∀ i d acc e, ds[i]? = some d → J i acc e → ∃ xs, tg.get d = some xs ∧ t (setE (wipeE e vs) tg.js xs) fun b e2 => if b = true then wi1 e2 fun ds1 e3 => ∃ J1 : Nat → List D → Env → Prop, J1 0 acc e3 ∧
    (∀ j d1 acc1 e4, ds1[j]? = some d1 → J1 j acc1 e4 → ∃ xs1, tg1.get d1 = some xs1 ∧ t1 (setE (wipeE e4 vs1) tg1.js xs1) fun b e5 => if b = true then w e5 fun r e6 => ∃ d', r = .f d' ∧ acc1.length < 100000 ∧ J1 (j + 1) (acc1 ++ [d']) e6 else J1 (j + 1) acc1 e5) ∧
    (∀ acc1 e4, J1 ds1.length acc1 e4 → J (i + 1) acc1 e4) else J (i + 1) acc e2) ∧
  ∀ acc e, J ds.length acc e → Q (.own (.lst acc)) (wipeE e vs)
section
variable {X : Cx} {G : Gx} {wi wi1 : WI} {tg tg1 : Tgt} {vs vs1 : List Nat} {t t1 : WT} {w : WE}
theorem lc2W {tt tt1 : TT} (hi : MonoI wi) (hi1 : MonoI wi1) (hw : MonoE w) (htt : ∀ σ H Q, tWT G t σ H Q → tt σ H Q) (mt : MonoT t) (htt1 : ∀ σ H Q, tWT G t1 σ H Q → tt1 σ H Q) (mt1 : MonoT t1) (hsub : ∀ j ∈ tg.js, j ∈ vs) (hsub1 : ∀ j ∈ tg1.js, j ∈ vs1) (hv : ∀ j ∈ vs1, j ∈ vs) (hp : ∀ i ∈ vs, G.prot i = false) {σ : L2.St} (hlen : ∀ i ∈ vs, i < σ.length) {H : Hp} {Q : VK} (h : tW G (wLc2 wi tg vs t wi1 tg1 vs1 t1 w) σ H Q) :
    tLc2 (tWI G wi) (tg.tg G.K) tt (tWI G wi1) (tg1.tg G.K) tt1 (tW G w) vs vs1 σ H Q := by
  obtain ⟨T, env, F, r, q⟩ := h
  refine ⟨T, env, F, r, hi _ _ _ (fun ds e0 ⟨J, j0, js, jd⟩ It T1 H1 F1 Bs a it b0 => ?_) q⟩
  intro Dl nD
  have Hnone : H Dl = none := by
    cases e : H Dl with
    | none => rfl
    | some u => exact absurd nD (a.chg.dom Dl (by rw [e]; exact nofun))
  have G0none : G.P0 Dl ∨ G.H0 Dl = none := .inr (by
    cases e : G.H0 Dl with
    | none => rfl
    | some u => exact absurd Hnone (r.st.dom Dl (by rw [e]; exact nofun)))
  have hp1 : ∀ i ∈ vs1, G.prot i = false := fun i h => hp i (hv i h)
  let S : Nat → Hp → Prop := fun i H' => ∃ T' e F' acc vacc, Cst G T H env F Dl σ vs T' H' e F' acc vacc ∧ Bs T' H' ∧ J i acc e
  have start : S 0 (upd H1 Dl (.lst [])) := by
    have a1 := att_new (o := HO.lst []) a.re nD
    have re := a1.re.wipeE vs
    refine ⟨_, e0, F1, [], [], ⟨(a.trans r.trk a1).chg, re, fun x ⟨k, ⟨o, hk⟩, hx⟩ => a.own x ⟨k, ⟨o, (wipeE_some hk).1⟩, hx⟩, fun k o hk => a.vw k o (wipeE_some hk).1, .inr rfl, upd_same, .nil, fun k ⟨s, hk⟩ hF => ?_⟩, it.keep _ _ _ _ b0 (hid_new nD), j0⟩
    obtain ⟨v, _, z⟩ := a.re.slot k s (wipeE_some hk).1
    exact a.re.trk Dl (z.sub Dl hF) nD
  refine ⟨fun i m H' => m = ds.length - i ∧ i ≤ ds.length ∧ S i H', ⟨_, rfl, Nat.zero_le _, start⟩, ?_⟩
  rintro i m H' ⟨rfl, hi', T', e, F', acc, vacc, c, b', j'⟩
  by_cases hlt : i < ds.length
  · obtain ⟨go, yl⟩ := it.go i T' H' c.re.trk b' hlt
    refine .inr ⟨go, S (i + 1), fun H2 s2 => ⟨ds.length - (i + 1), by omega, rfl, hlt, s2⟩, fun x H2 y => ?_⟩
    obtain ⟨d, hd, ex, fz⟩ := yl x H2 y
    obtain ⟨xs, hx, jt⟩ := js i d acc e hd j'
    refine c.turn r.trk ex fz hx hsub hp hlen fun σ2 F2 c2 ln sg => ⟨wipe_eq ln sg, ?_⟩
    refine htt _ _ _ ⟨T', _, F2, c2.re, mt _ _ _ (fun b e2 q T3 H3 F3 a3 => ?_) jt⟩
    obtain ⟨c3, x3⟩ := c2.ev r.trk a3
    have x23 := (hid_mono (T := T') ex).trans x3
    cases b with
    | false =>
      have q : J (i + 1) acc e2 := q
      exact ite_ff ⟨T3, e2, F3, acc, vacc, c3.back (by simp) ln.symm (fun k hk => (sg k hk).symm) hp, it.keep _ _ _ _ b' x23, q⟩
    | true =>
      refine ite_tt ⟨T3, e2, F3, a3.re, hi1 _ _ _ (fun ds1 e3 ⟨J1, k0, ks, kd⟩ It1 T4 H4 F4 Bs1 a4 it1 b1 => ?_) q⟩
      obtain ⟨c4, x4⟩ := c3.ev r.trk a4
      let S1 : Nat → Hp → Prop := fun j H' => ∃ T5 e5 F5 acc1 vacc1, Cst G T H env F Dl σ2 vs1 T5 H' e5 F5 acc1 vacc1 ∧ Bs T5 H' ∧ Bs1 T5 H' ∧ J1 j acc1 e5
      have start1 : S1 0 H4 := ⟨T4, e3, F4, acc, vacc, c4.back (by simp) rfl (fun _ _ => rfl) hp1, it.keep _ _ _ _ b' (x23.trans x4), b1, k0⟩
      refine ⟨fun j k H' => k = ds1.length - j ∧ j ≤ ds1.length ∧ S1 j H', ⟨_, rfl, Nat.zero_le _, start1⟩, ?_⟩
      rintro j k H5 ⟨rfl, hj', T5, e5, F5, acc1, vacc1, c5, b5, b15, j5⟩
      have hlen2 : ∀ i ∈ vs1, i < σ2.length := fun i h => by rw [ln]; exact hlen i (hv i h)
      by_cases hlt1 : j < ds1.length
      · obtain ⟨go1, yl1⟩ := it1.go j T5 H5 c5.re.trk b15 hlt1
        refine .inr ⟨go1, S1 (j + 1), fun H2 s2 => ⟨ds1.length - (j + 1), by omega, rfl, hlt1, s2⟩, fun x6 H6 y6 => ?_⟩
        obtain ⟨d1, hd1, ex1, fz1⟩ := yl1 x6 H6 y6
        obtain ⟨xs1, hx1, jt1⟩ := ks j d1 acc1 e5 hd1 j5
        refine c5.turn r.trk ex1 fz1 hx1 hsub1 hp1 hlen2 fun σ3 F6 c6 ln3 sg3 => ⟨wipe_eq ln3 sg3, ?_⟩
        refine htt1 _ _ _ ⟨T5, _, F6, c6.re, mt1 _ _ _ (fun b e7 q T7 H7 F7 a7 => ?_) jt1⟩
        obtain ⟨c7, x7⟩ := c6.ev r.trk a7
        have x67 := (hid_mono (T := T5) ex1).trans x7
        cases b with
        | false =>
          have q : J1 (j + 1) acc1 e7 := q
          exact ite_ff ⟨T7, e7, F7, acc1, vacc1, c7.back (by simp) ln3.symm (fun k hk => (sg3 k hk).symm) hp1, it.keep _ _ _ _ b5 x67, it1.keep _ _ _ _ b15 x67, q⟩
        | true =>
          refine ite_tt ⟨T7, e7, F7, a7.re, hw _ _ _ (fun s e8 ⟨d', hs, hz, j8⟩ y8 T8 H8 F8 fr8 a8 z8 => ?_) q⟩
          subst hs
          obtain ⟨c8, x8⟩ := c7.ev r.trk a8
          obtain ⟨c9, x9⟩ := c8.write r.trk Hnone G0none z8.rel.1
          have x89 := (x67.trans x8).trans x9
          exact ⟨vacc1, c8.hD, by rw [c8.fa.length]; exact Nat.lt_of_lt_of_le hz (by decide), T8, e8, F8, acc1 ++ [d'], vacc1 ++ [y8], c9.back (by simp) ln3.symm (fun k hk => (sg3 k hk).symm) hp1, it.keep _ _ _ _ b5 x89, it1.keep _ _ _ _ b15 x89, j8⟩
      · have z : j = ds1.length := by omega
        subst z
        exact .inl ⟨it1.stop _ T5 H5 b15 rfl, T5, e5, F5, acc1, vacc1, c5.back hv ln.symm (fun k hk => (sg k hk).symm) hp, b5, kd acc1 e5 j5⟩
  · have z : i = ds.length := by omega
    subst z
    refine .inl ⟨it.stop _ T' H' b' rfl, ?_⟩
    refine jd acc e j' (.ref Dl) T' H' F' [Dl] ⟨c.chg, c.re, c.own, c.vw⟩ ⟨.lst c.tD c.hD c.fa, fun o _ k hk x hx hF => ?_, fun o _ x hx => ?_⟩
    · rw [List.mem_singleton.mp hx] at hF
      exact c.nF k hk hF
    · rw [List.mem_singleton.mp hx]
      exact .inr Hnone
theorem mono_lc2 (mi : MonoI wi) : MonoE (wLc2 wi tg vs t wi1 tg1 vs1 t1 w) := fun env Q Q' i q => mi _ _ _ (fun ds e0 ⟨J, j0, js, jd⟩ => ⟨J, j0, js, fun acc e hj => i _ _ (jd acc e hj)⟩) q
end
end Fx

namespace Fx
open PySem PySem.Spec PyProof.Rows L2 Evl Lk
/-! ### comprehensions of two fors: the rules -/
section
variable {X : Cx} {G : Gx} {elt tg iter tg1 iter1 c c1 : Expr} {scope : Scope} {own : List (Str × Nat)} {vs1 : List Nat} {pos : Pos} {wi wi1 : WI} {t t1 : Tgt} {w : WE} {wt wt1 : WT}
abbrev GIB (X : Cx) (scope : Scope) (G : Gx) (tg iter : Expr) (w : WI) : Prop := ∀ (s : Shared) (H : Hp) (C : Addr) (cl : List (Str × Addr)) (fp : List Addr), GI (X.blk s H scope (compEnvC scope cl C X.env) fp) G tg iter w
theorem allB_monoI (h : GIB X scope G tg iter wi) : MonoI wi := (h {} (fun _ => none) 0 [] []).mono
theorem ge_lc2 {e : Expr} {tt tt1 : TT} {vs : List Nat} (h : PE X e (tLc2 (tWI G wi) (t.tg G.K) tt (tWI G wi1) (t1.tg G.K) tt1 (tW G w) vs vs1)) (mi : MonoI wi) (mi1 : MonoI wi1) (mw : MonoE w) (htt : ∀ σ H Q, tWT G wt σ H Q → tt σ H Q) (mt : MonoT wt) (htt1 : ∀ σ H Q, tWT G wt1 σ H Q → tt1 σ H Q) (mt1 : MonoT wt1)
    (hsub : ∀ j ∈ t.js, j ∈ vs) (hsub1 : ∀ j ∈ t1.js, j ∈ vs1) (hv : ∀ j ∈ vs1, j ∈ vs) (hp : ∀ i ∈ vs, G.prot i = false) (hN : ∀ i ∈ vs, i < X.N.length) : GE X G e (wLc2 wi t vs wt wi1 t1 vs1 wt1 w) :=
  ⟨pe_impN h fun σ H Q hl q => lc2W mi mi1 mw htt mt htt1 mt1 hsub hsub1 hv hp (fun i hi => by rw [hl]; exact hN i hi) q, mono_lc2 mi⟩
/-- [e for t in xs for t1 in ys] -/
theorem ge_lc2R (hc : X.calm = true) (hN : X.N.Nodup) (hi : GI X G tg iter wi) (ok : BlkOk X.N X.env.scope scope own) (hg : PGB X scope tg (t.tg G.K)) (hi1 : GIB X scope G tg1 iter1 wi1) (hg1 : PGB X scope tg1 (t1.tg G.K)) (he : GEB X scope G elt w)
    (hsub : ∀ j ∈ t.js, j ∈ own.map (·.2)) (hsub1 : ∀ j ∈ t1.js, j ∈ vs1) (hv : ∀ j ∈ vs1, j ∈ own.map (·.2)) (hp : ∀ i ∈ own.map (·.2), G.prot i = false) (hL : ∀ i ∈ own.map (·.2), i < X.N.length) (hs : ∀ x, foldedSetIterable iter X.env x = pure x := by intro _; rfl) (hs1 : ∀ env x, foldedSetIterable iter1 env x = pure x := by intro _ _; rfl) :
    GE X G (.ListComp elt [⟨tg, iter, [], 0⟩, ⟨tg1, iter1, [], 0⟩] scope pos) (wLc2 wi t (own.map (·.2)) wYes wi1 t1 vs1 wYes w) :=
  ge_lc2 (tt := tYes) (tt1 := tYes) (L2.pe_lc2 hc hN hi.pi ok hv hg (fun _ _ _ _ _ => pts_nil) (fun s H C cl fp => (hi1 s H C cl fp).pi) hg1 (fun _ _ _ _ _ => pts_nil) (fun s H C cl fp => (he s H C cl fp).pe) hs hs1) hi.mono (allB_monoI hi1) (allB_mono he) (fun _ _ _ q => tt_yes q) mono_yes (fun _ _ _ q => tt_yes q) mono_yes hsub hsub1 hv hp hL
/-- [e for t in xs for t1 in ys if c] -/
theorem ge_lc2R1 (hc : X.calm = true) (hN : X.N.Nodup) (hi : GI X G tg iter wi) (ok : BlkOk X.N X.env.scope scope own) (hg : PGB X scope tg (t.tg G.K)) (hi1 : GIB X scope G tg1 iter1 wi1) (hg1 : PGB X scope tg1 (t1.tg G.K)) (ht1 : GTB X scope G c1 wt1) (he : GEB X scope G elt w)
    (hsub : ∀ j ∈ t.js, j ∈ own.map (·.2)) (hsub1 : ∀ j ∈ t1.js, j ∈ vs1) (hv : ∀ j ∈ vs1, j ∈ own.map (·.2)) (hp : ∀ i ∈ own.map (·.2), G.prot i = false) (hL : ∀ i ∈ own.map (·.2), i < X.N.length) (hs : ∀ x, foldedSetIterable iter X.env x = pure x := by intro _; rfl) (hs1 : ∀ env x, foldedSetIterable iter1 env x = pure x := by intro _ _; rfl) :
    GE X G (.ListComp elt [⟨tg, iter, [], 0⟩, ⟨tg1, iter1, [c1], 0⟩] scope pos) (wLc2 wi t (own.map (·.2)) wYes wi1 t1 vs1 wt1 w) :=
  ge_lc2 (tt := tYes) (L2.pe_lc2 hc hN hi.pi ok hv hg (fun _ _ _ _ _ => pts_nil) (fun s H C cl fp => (hi1 s H C cl fp).pi) hg1 (fun s H C cl fp => pts_one (ht1 s H C cl fp).pt) (fun s H C cl fp => (he s H C cl fp).pe) hs hs1) hi.mono (allB_monoI hi1) (allB_mono he) (fun _ _ _ q => tt_yes q) mono_yes (fun _ _ _ q => q) (allB_monoT ht1) hsub hsub1 hv hp hL
/-! the walk -/
theorem x_lc2 {vs : List Nat} {env : Env} {Q : Sl → Env → Prop} (h : wi env fun ds e0 => ∃ J : Nat → List D → Env → Prop, J 0 [] e0 ∧
  (∀ i d acc e, ds[i]? = some d → J i acc e → ∃ xs, t.get d = some xs ∧ wt (setE (wipeE e vs) t.js xs) fun b e2 => if b = true then wi1 e2 fun ds1 e3 => ∃ J1 : Nat → List D → Env → Prop, J1 0 acc e3 ∧
    (∀ j d1 acc1 e4, ds1[j]? = some d1 → J1 j acc1 e4 → ∃ xs1, t1.get d1 = some xs1 ∧ wt1 (setE (wipeE e4 vs1) t1.js xs1) fun b e5 => if b = true then w e5 fun r e6 => ∃ d', r = .f d' ∧ acc1.length < 100000 ∧ J1 (j + 1) (acc1 ++ [d']) e6 else J1 (j + 1) acc1 e5) ∧
    (∀ acc1 e4, J1 ds1.length acc1 e4 → J (i + 1) acc1 e4) else J (i + 1) acc e2) ∧
  ∀ acc e, J ds.length acc e → Q (.own (.lst acc)) (wipeE e vs)) : wLc2 wi t vs wt wi1 t1 vs1 wt1 w env Q := h
theorem x_lenSets {w : WE} {env : Env} {Q : Sl → Env → Prop} (h : w env fun r e => ∃ xs : List Str, r = .f (.lst (xs.map D.str)) ∧ xs.length ≤ 4000 ∧ Q (.f (.int (dst xs : Nat))) e) : wLenSets w env Q := h
end
end Fx

namespace Fx
open PySem PySem.Spec PyProof.Rows L2 Evl Lk
/-! ### xs.append(e), xs owned -/
def wApp (k : Nat) (wd : WAD) : WS := fun D env => (∃ s, env[k]? = some (some (.own (.lst s)))) ∧ wd env fun as e => ∃ d ds, as = [d] ∧ e[k]? = some (some (.own (.lst ds))) ∧ ds.length ≤ 100000 ∧ D.nx (e.set k (some (.own (.lst (ds ++ [d])))))
section
variable {X : Cx} {G : Gx} {wd : WAD}
theorem gs_append {o e : Expr} {k : Nat} {apos cpos pos : Pos} (ho : PE X o (tVar k)) (ha : GD X G [e] wd) (hs : swapsWith (.Call (.Attribute o "append" apos) [e] [] cpos) none pos.line X.env = pure false := by rfl)
    (hbase : attributeBase o "append" X.env (eval o X.env) = eval o X.env := by rfl)
    (hfew : ((backTo cpos (starEach [e] X.env)).all (fun x => !x.1) && (backToKw cpos (keywordEach [] X.env)).all (fun x => x.1.isSome) && decide (([e] : List Expr).length + ([] : List Keyword).length + (if ([] : List Keyword).isEmpty then 0 else 1) < 30)) = true := by rfl)
    (hline : (apos.endLine == cpos.line) = true := by rfl) (hst : starEach [e] X.env = (false, eval e X.env) :: starEach [] X.env := by rfl) (hpl : (backTo cpos (starEach [] X.env)).any (·.1) = false := by rfl) :
    GS X G (.Expr (.Call (.Attribute o "append" apos) [e] [] cpos) pos) (wApp k wd) := by
  refine ⟨ps_imp (ps_expr (pe_bm PySem.F.plainAttrs_list PySem.F.slot_list_append PySem.F.type_list_append mt_append ho ha.ga.pa hbase hfew hline hst hpl) hs) fun D σ H ⟨T, env, F, r, ⟨s0, h0⟩, q⟩ => ?_, fun D D' env l ⟨h0, q⟩ => ⟨h0, ha.mono _ _ _ (fun as e ⟨d, ds, h1, h2, h3, q⟩ => ⟨d, ds, h1, h2, h3, l.nx _ q⟩) q⟩⟩
  obtain ⟨p0, vs0, s1, hp0, _, _⟩ := own_lst r h0
  refine ⟨_, s1, ?_, T, env, F, r, ha.mono _ _ _ (fun as e ⟨d, ds, h1, h2, h3, q⟩ vs T1 H1 F1 Fa a z => ?_) q⟩
  · exact .inl ⟨rfl, vs0, SqL.of hp0⟩
  subst h1
  obtain ⟨v, v1, v2, _⟩ := z.val 0 (.f d) rfl
  have hl : vs.length = 1 := z.len
  obtain ⟨p, ws, s2, hp1, f1, upd_⟩ := own_lst a.re h2
  rw [s1] at s2
  cases s2
  have e1 : vs = [v] := by
    match vs, hl, v1 with
    | [x], _, v1 => cases v1; rfl
  have fz : Fz G.K (hid T1 H1) v d := v2.1
  have a2 := upd_ (ws ++ [v]) (ds ++ [d]) (f1.append (.cons fz .nil))
  exact ⟨p0, ws, v, rfl, e1, hp1, by rw [f1.length]; exact Nat.lt_of_le_of_lt h3 (by decide), q σ T1 _ F1 a2.re ((a.chg.hid r.sub).trans (a2.chg.hid a.re.sub))⟩
theorem x_app {k : Nat} {D : WEnds} {env : Env} {s : List Fx.D} (h0 : env[k]? = some (some (.own (.lst s)))) (h : wd env fun as e => ∃ d ds, as = [d] ∧ e[k]? = some (some (.own (.lst ds))) ∧ ds.length ≤ 100000 ∧ D.nx (e.set k (some (.own (.lst (ds ++ [d])))))) : wApp k wd D env := ⟨⟨s, h0⟩, h⟩
theorem x_appE {k : Nat} {q : Env → Prop} {env : Env} {d : Fx.D} {ds : List Fx.D} (h0 : env[k]? = some (some (.own (.lst ds)))) (hl : ds.length ≤ 100000) (h : q (env.set k (some (.own (.lst (ds ++ [d])))))) : ∃ d' ds', [d] = [d'] ∧ env[k]? = some (some (.own (.lst ds'))) ∧ ds'.length ≤ 100000 ∧ q (env.set k (some (.own (.lst (ds' ++ [d']))))) := ⟨d, ds, rfl, h0, hl, h⟩
end
end Fx

namespace Fx
open PySem PySem.Spec PyProof.Rows L2 Evl Lk
/-! ### x op e, x a name whatever it holds: read again behind e -/
def wBinV (o : Op2) (i : Nat) (w2 : WE) : WE := fun env Q => (∃ s, env[i]? = some (some s)) ∧ w2 env fun r2 e2 => ∃ s d1 d2, e2[i]? = some (some s) ∧ s.cd = some d1 ∧ r2.cd = some d2 ∧ o d1 d2 fun d => Q (.f d) e2
section
variable {X : Cx} {G : Gx} {o : Op2} {w2 : WE} {i : Nat} {a b : Expr} {pos : Pos}
theorem binVW (mb : MonoE w2) (mo : MonoO o) {σ : L2.St} {H : Hp} {Q : VK} (h : tW G (wBinV o i w2) σ H Q) : tOp (rO G o) (tVar i) (tW G w2) σ H Q := by
  obtain ⟨T, env, F, r, ⟨s0, h0⟩, q⟩ := h
  obtain ⟨v, hv, _⟩ := r.slot i s0 h0
  refine ⟨v, hv, T, env, F, r, mb env _ _ (fun r2 e2 ⟨s, d1, d2, h1, c1, c2, q⟩ v2 T2 H2 F2 f2 a2 z2 => ?_) q⟩
  obtain ⟨v', hv', z1⟩ := a2.re.slot i s h1
  rw [hv] at hv'
  cases hv'
  refine ⟨T2, d1, d2, a2.re.trk, z1.cz c1, z2.rel.cz c2, mo _ _ _ _ (fun d q v H3 e3 fz => ?_) q⟩
  exact q v T2 H3 F2 [] (a2.trans r.trk (Att.ex a2.re e3)) ⟨⟨fz, rfl⟩, nofun, nofun⟩
theorem monoBinV (mb : MonoE w2) (mo : MonoO o) : MonoE (wBinV o i w2) := fun env Q Q' j ⟨h, q⟩ => ⟨h, mb env _ _ (fun r2 e2 ⟨s, d1, d2, h1, c1, c2, q⟩ => ⟨s, d1, d2, h1, c1, c2, mo _ _ _ _ (fun d q => j _ _ q) q⟩) q⟩
theorem gt_cmpV {op : CmpOp} (ho : OpX X G (compareOp op) o) (ha : PE X a (tVar i)) (hb : GE X G b w2) (hm : behindInMarks op b = false) : GT X G (.Compare a [op] [b] pos) (wTB (wBinV o i w2)) := by
  have m := monoBinV (i := i) hb.mono ho.mono
  refine ⟨pt_imp (pt_cmpR ho.ok ha hb.pe hm) fun σ H Q ⟨T, env, F, r, q⟩ => ?_, fun env Q Q' i q => m env _ _ (fun s e ⟨b, hb, q⟩ => ⟨b, hb, i _ _ q⟩) q⟩
  refine binVW hb.mono ho.mono ⟨T, env, F, r, m env _ _ (fun s e ⟨b, hb, q⟩ v T' H' F' fr a z => ?_) q⟩
  subst hb
  obtain ⟨h1, _⟩ := z.rel
  cases h1
  exact ⟨_, rfl, q T' H' F' a⟩
theorem ge_ixV (ho : IxX X G o) (ha : PE X a (tVar i)) (hb : GE X G b w2) (hs : PlainIx b) : GE X G (.Subscript a b pos) (wBinV o i w2) :=
  ⟨pe_imp (pe_ix ho.ok ha hb.pe hs) fun _ _ _ h => binVW hb.mono ho.mono h, monoBinV hb.mono ho.mono⟩
theorem x_binV {env : Env} {Q : Sl → Env → Prop} {s : Sl} (h0 : env[i]? = some (some s)) (h : w2 env fun r2 e2 => ∃ s d1 d2, e2[i]? = some (some s) ∧ s.cd = some d1 ∧ r2.cd = some d2 ∧ o d1 d2 fun d => Q (.f d) e2) : wBinV o i w2 env Q := ⟨⟨s, h0⟩, h⟩
end
end Fx

namespace Fx
open PySem PySem.Spec PyProof.Rows L2 Evl Lk
/-! ### is True, is False, asked of a truth value -/
theorem isB_eq (a b : Bool) : compareOp .Is (.bool a) (.bool b) = pure (.bool (a == b)) := by
  cases a <;> cases b <;> first | rfl | simp [compareOp, isSame]
theorem isnB_eq (a b : Bool) : compareOp .IsNot (.bool a) (.bool b) = pure (.bool (!(a == b))) := by
  cases a <;> cases b <;> first | rfl | simp [compareOp, isSame]
def dIsB (neg : Bool) : Op2 := fun a b Q => ∃ x c, a = .bl x ∧ b = .bl c ∧ Q (.bl (if neg = true then !(x == c) else x == c))
section
variable {X : Cx} {G : Gx}
theorem opx_isB : OpX X G (compareOp .Is) (dIsB false) := by
  refine ⟨fun pins s σ H x y v u Q I rx ry ⟨T, d1, d2, t, c1, c2, x', c, h1, h2, q⟩ => ?_, fun a b Q Q' i ⟨x, c, h1, h2, q⟩ => ⟨x, c, h1, h2, i _ q⟩⟩
  subst h1 h2
  cases c1
  cases c2
  cases rx
  cases ry
  rw [isB_eq]
  exact wpAny_pure (fin_bl I (q _ H (Ex.refl H) (.bl _)) rfl)
theorem opx_notB : OpX X G (compareOp .IsNot) (dIsB true) := by
  refine ⟨fun pins s σ H x y v u Q I rx ry ⟨T, d1, d2, t, c1, c2, x', c, h1, h2, q⟩ => ?_, fun a b Q Q' i ⟨x, c, h1, h2, q⟩ => ⟨x, c, h1, h2, i _ q⟩⟩
  subst h1 h2
  cases c1
  cases c2
  cases rx
  cases ry
  rw [isnB_eq]
  exact wpAny_pure (fin_bl I (q _ H (Ex.refl H) (.bl _)) rfl)
theorem x_isB {neg x c : Bool} {Q : D → Prop} (h : Q (.bl (if neg = true then !(x == c) else x == c))) : dIsB neg (.bl x) (.bl c) Q := ⟨x, c, rfl, rfl, h⟩
end
/-! ### xs.pop(e), xs owned -/
def wPopD (k : Nat) (wd : WAD) : WE := fun env Q => (∃ s, env[k]? = some (some (.own (.lst s)))) ∧ wd env fun as e => ∃ (i : Int) (ds : List D) (d : D), as = [.int i] ∧ e[k]? = some (some (.own (.lst ds))) ∧ 0 ≤ i ∧ ds.length ≤ 100000 ∧ ds[i.toNat]? = some d ∧ Q (.f d) (e.set k (some (.own (.lst (ds.eraseIdx i.toNat)))))
section
variable {X : Cx} {G : Gx} {wd : WAD}
theorem ge_popD {o e : Expr} {k : Nat} {apos cpos : Pos} (ho : PE X o (tVar k)) (ha : GD X G [e] wd)
    (hbase : attributeBase o "pop" X.env (eval o X.env) = eval o X.env := by rfl)
    (hfew : ((backTo cpos (starEach [e] X.env)).all (fun x => !x.1) && (backToKw cpos (keywordEach [] X.env)).all (fun x => x.1.isSome) && decide (([e] : List Expr).length + ([] : List Keyword).length + (if ([] : List Keyword).isEmpty then 0 else 1) < 30)) = true := by rfl)
    (hline : (apos.endLine == cpos.line) = true := by rfl) (hst : starEach [e] X.env = (false, eval e X.env) :: starEach [] X.env := by rfl) (hpl : (backTo cpos (starEach [] X.env)).any (·.1) = false := by rfl) :
    GE X G (.Call (.Attribute o "pop" apos) [e] [] cpos) (wPopD k wd) := by
  refine ⟨pe_imp (pe_bm PySem.F.plainAttrs_list PySem.F.slot_list_pop PySem.F.type_list_pop mt_popAt ho ha.ga.pa hbase hfew hline hst hpl) fun σ H Q ⟨T, env, F, r, ⟨s0, h0⟩, q⟩ => ?_, fun env Q Q' ii ⟨h0, q⟩ => ⟨h0, ha.mono _ _ _ (fun as e ⟨i, ds, d, h1, h2, h3, h4, h5, q⟩ => ⟨i, ds, d, h1, h2, h3, h4, h5, ii _ _ q⟩) q⟩⟩
  obtain ⟨p0, vs0, s1, hp0, _, _⟩ := own_lst r h0
  refine ⟨_, s1, .inl ⟨rfl, vs0, SqL.of hp0⟩, T, env, F, r, ha.mono _ _ _ (fun as e ⟨i, ds, d, h1, h2, h3, h4, h5, q⟩ vs T1 H1 F1 Fa a z => ?_) q⟩
  subst h1
  obtain ⟨v, v1, v2, _⟩ := z.val 0 (.f (.int i)) rfl
  have hl : vs.length = 1 := z.len
  obtain ⟨p, ws, s2, hp1, f1, upd_⟩ := own_lst a.re h2
  rw [s1] at s2
  cases s2
  have e1 : vs = [v] := by
    match vs, hl, v1 with
    | [x], _, v1 => cases v1; rfl
  have fz : Fz G.K (hid T1 H1) v (.int i) := v2.1
  cases fz
  have hj : i.toNat < ws.length := by rw [f1.length]; exact (List.getElem?_eq_some_iff.mp h5).1
  have a2 := upd_ (ws.eraseIdx i.toNat) (ds.eraseIdx i.toNat) (f1.erase _)
  have fd := f1.get (List.getElem?_eq_getElem hj) h5
  have hlen : ws.length ≤ 100000 := by rw [f1.length]; exact h4
  refine ⟨p0, ws, i, i.toNat, ws[i.toNat], rfl, e1, hp1, by omega, by omega, ?_, List.getElem?_eq_getElem hj, q _ T1 _ F1 [] (a.trans r.trk a2) (res_f (fd.ex (a2.chg.hid a.re.sub)))⟩
  unfold seqIndex?
  simp
  omega
theorem x_popD {k : Nat} {Q : Sl → Env → Prop} {env : Env} {s : List D} (h0 : env[k]? = some (some (.own (.lst s)))) (h : wd env fun as e => ∃ (i : Int) (ds : List D) (d : D), as = [.int i] ∧ e[k]? = some (some (.own (.lst ds))) ∧ 0 ≤ i ∧ ds.length ≤ 100000 ∧ ds[i.toNat]? = some d ∧ Q (.f d) (e.set k (some (.own (.lst (ds.eraseIdx i.toNat)))))) : wPopD k wd env Q := ⟨⟨s, h0⟩, h⟩
end
/-! ### x + e, lists, x a name, the sum owned -/
def rCat (X : Cx) : V → V → Hp → VK → Prop := fun x y H Q => ∃ a b xs ys, x = .ref a ∧ y = .ref b ∧ SqL X.K H a xs ∧ SqL X.K H b ys ∧ xs.length + ys.length ≤ sizeLine ∧ ∀ p, H p = none → Q (.ref p) (upd H p (.lst (xs ++ ys)))
theorem op_cat {X : Cx} : OpR X (binaryOp .Add) (rCat X) := by
  intro pins s σ H x y v u Q I rx ry ⟨a, b, xs, ys, h1, h2, l1, l2, hz, q⟩
  subst h1 h2
  cases rx
  cases ry
  exact cat_any I l1 l2 hz q
def wCatV (i : Nat) (w2 : WE) : WE := fun env Q => (∃ s, env[i]? = some (some s)) ∧ w2 env fun r2 e2 => ∃ s a b, e2[i]? = some (some s) ∧ s.cd = some (.lst a) ∧ r2.cd = some (.lst b) ∧ a.length + b.length ≤ sizeLine ∧ Q (.own (.lst (a ++ b))) e2
section
variable {X : Cx} {G : Gx} {w2 : WE} {i : Nat} {a b : Expr} {pos : Pos}
theorem ge_catV (ha : PE X a (tVar i)) (hb : GE X G b w2) (hK : X.K = G.K := by rfl) : GE X G (.BinOp a .Add b pos) (wCatV i w2) := by
  refine ⟨pe_imp (pe_op op_cat ha hb.pe) fun σ H Q ⟨T, env, F, r, ⟨s0, h0⟩, q⟩ => ?_, fun env Q Q' j ⟨h0, q⟩ => ⟨h0, hb.mono _ _ _ (fun r2 e2 ⟨s, a, b, h1, h2, h3, h4, q⟩ => ⟨s, a, b, h1, h2, h3, h4, j _ _ q⟩) q⟩⟩
  obtain ⟨v, hv, _⟩ := r.slot i s0 h0
  refine ⟨v, hv, T, env, F, r, hb.mono _ _ _ (fun r2 e2 ⟨s, xs, ys, h1, c1, c2, hz, q⟩ v2 T2 H2 F2 f2 a2 z2 => ?_) q⟩
  obtain ⟨v', hv', z1⟩ := a2.re.slot i s h1
  rw [hv] at hv'
  cases hv'
  obtain ⟨p1, vs, rfl, l1, f1⟩ := z1.cz c1
  obtain ⟨p2, ws, rfl, l2, f3⟩ := z2.rel.cz c2
  refine ⟨p1, p2, vs, ws, rfl, rfl, by rw [hK]; exact l1, by rw [hK]; exact l2, by rw [f1.length, f3.length]; exact hz, fun p np => ?_⟩
  exact q _ _ _ F2 [p] (a2.trans r.trk (att_new a2.re np)) (res_trans r.trk a2 (own_new a2.re np (.lst (.inr rfl) upd_same ((f1.append f3).ex (hid_new np)))))
theorem x_catV {env : Env} {Q : Sl → Env → Prop} {s : Sl} (h0 : env[i]? = some (some s)) (h : w2 env fun r2 e2 => ∃ s a b, e2[i]? = some (some s) ∧ s.cd = some (.lst a) ∧ r2.cd = some (.lst b) ∧ a.length + b.length ≤ sizeLine ∧ Q (.own (.lst (a ++ b))) e2) : wCatV i w2 env Q := ⟨⟨s, h0⟩, h⟩
/-! ### x op e, as a value; x[lo:hi] of a value, the part owned -/
theorem ge_opV {o : Op2} {op : Operator} (ho : OpX X G (binaryOp op) o) (ha : PE X a (tVar i)) (hb : GE X G b w2) : GE X G (.BinOp a op b pos) (wBinV o i w2) :=
  ⟨pe_imp (pe_op ho.ok ha hb.pe) fun _ _ _ h => binVW hb.mono ho.mono h, monoBinV hb.mono ho.mono⟩
def wSlN (w : WE) (lo hi : WO) : WE := fun env Q => w env fun r e => ∃ ds, r = .f (.lst ds) ∧ lo e fun l e2 => hi e2 fun u e3 => Q (.own (.lst (cutD ds l u))) e3
theorem ge_slN {e : Expr} {w : WE} {lo hi : Option Expr} {wl wh : WO} {p2 : Pos} (he : GE X G e w) (hl : GO X G lo wl) (hu : GO X G hi wh) (hK : X.K = G.K := by rfl) : GE X G (.Subscript e (.Slice lo hi none p2) pos) (wSlN w wl wh) := by
  refine ⟨pe_imp (pe_slice (r := fun x lo hi H Q => ∃ a vs, x = .ref a ∧ SqL X.K H a vs ∧ ∀ p, H p = none → Q (.ref p) (upd H p (.lst (cutV vs lo hi)))) (fun pins s σ H x v vl vu lo hi sl Q I rx hs pl pu h => sl_list pins s σ H x v vl vu lo hi sl Q I rx hs pl pu h) he.pe hl.po hu.po) fun σ H Q ⟨T, env, F, r, q⟩ => ⟨T, env, F, r, he.mono _ _ _ (fun s e ⟨ds, hs, q⟩ x T1 H1 F1 f1 a1 z1 => ?_) q⟩, fun env Q Q' i q => he.mono _ _ _ (fun s e ⟨ds, hs, q⟩ => ⟨ds, hs, hl.mono _ _ _ (fun l e2 q => hu.mono _ _ _ (fun u e3 q => i _ _ q) q) q⟩) q⟩
  subst hs
  refine ⟨T1, e, F1, a1.re, hl.mono _ _ _ (fun l e2 q T2 H2 F2 a2 => ⟨T2, e2, F2, a2.re, hu.mono _ _ _ (fun u e3 q T3 H3 F3 a3 => ?_) q⟩) q⟩
  have a13 := (a1.trans r.trk a2).trans r.trk a3
  obtain ⟨p1, vs, rfl, l1, f⟩ := Cz.of (Fz.att a2.re a3 (Fz.att a1.re a2 z1.rel.1))
  refine ⟨p1, vs, rfl, by rw [hK]; exact l1, fun p np => ?_⟩
  exact q _ _ _ F3 [p] (a13.trans r.trk (att_new a3.re np)) (res_trans r.trk a13 (own_new a3.re np (.lst (.inr rfl) upd_same ((f.cut l u).ex (hid_new np)))))
theorem x_slN2 {w : WE} {lo hi : WO} {env : Env} {Q : Sl → Env → Prop} (h : w env fun r e => ∃ ds, r = .f (.lst ds) ∧ lo e fun l e2 => hi e2 fun u e3 => Q (.own (.lst (cutD ds l u))) e3) : wSlN w lo hi env Q := h
end
end Fx

namespace Fx
open PySem PySem.Spec PyProof.Rows L2 Evl Lk
theorem x_tplL {ds : List D} {Q : D → Prop} (h : Q (.tup ds)) : cTuple [.lst ds] Q := h
theorem x_tplT {ds : List D} {Q : D → Prop} (h : Q (.tup ds)) : cTuple [.tup ds] Q := h
end Fx

namespace Fx
open PySem PySem.Spec PyProof.Rows L2 Evl Lk
/-! ### sets whose order of walking is known: what L2 has for whole numbers, for any kind of key -/
namespace SO
variable {P : Program} {w : World} {κ : Type} [DecidableEq κ] {knd : KeyKind P w κ}
def SetS (knd : KeyKind P w κ) (h : Heap) (a : Addr) (S : κ → Bool) (n : Nat) : Prop := ∃ (o : Obj) (es : Array (Int × Value)) (ep : Nat) (t : SetTable), h.get? a = some o ∧ o.ExactSet ∧ o.data = .set es ep t ∧ ElemsOf knd es.toList ∧ (∀ k, S k = true ↔ ∃ e, e ∈ es.toList ∧ knd.is k e.snd = true) ∧
  es.size < scanBound ∧ t.fits es.size = true ∧ es.size = n ∧ Ris t.place.toList ∧ (w.params.followText "set-order" = true ∨ t.led = true)
theorem SetS.setOf {h : Heap} {a : Addr} {S : κ → Bool} {n : Nat} : SetS knd h a S n → Heap.SetOf knd h a S n
  | ⟨o, es, ep, t, h1, h2, h3, h4, h5, h6, h7, h8, _, _⟩ => ⟨o, es, ep, t, h1, h2, h3, h4, h5, h6, h7, h8⟩
theorem add_tail {A : Around} {E : Value → Shared → Prop} {s : Shared} {a : Addr} {g : Bool → Sem Unit} (hg : ∀ (b : Bool) (s₁ : Shared) (Q' : Unit → Shared → Prop), Q' () s₁ → wpAny (model P w) A (g b) Q' E s₁)
    {o : Obj} {es : Array (Int × Value)} {ep : Nat} {t : SetTable} (ho : s.heap.get? a = some o) (hx : o.ExactSet) (hd : o.data = .set es ep t)
    {es1 : Array (Int × Value)} {t2 : SetTable} {S' : κ → Bool} (he : ElemsOf knd es1.toList) (hS : ∀ k, S' k = true ↔ ∃ e, e ∈ es1.toList ∧ knd.is k e.snd = true) (hb : es1.size < scanBound) (hf : t2.fits es1.size = true) (hr : Ris t2.place.toList) (hl : w.params.followText "set-order" = true ∨ t2.led = true)
    {wd : Bool} {R : Option Bool → Shared → Prop} (q : ∀ h', Heap.SameBut a s.heap h' → SetS knd h' a S' es1.size → R (some true) { s with heap := h' }) :
    wpAny (model P w) A (do
      storeSet a es1 t2
      if (!wd && t2.tooFull) = true then do
        g (relayAll t2 es1 (SetTable.grown es1.size)).snd.snd
        storeSet a (relayAll t2 es1 (SetTable.grown es1.size)).fst (relayAll t2 es1 (SetTable.grown es1.size)).snd.fst
        pure (some true)
      else pure (some true)) R E s := by
  have st := store_at (es' := es1) (t' := t2) ho hd
  refine wpAny_bind (wpAny_storeSet_of ho hd ?_ (fits_of_scanBound hb))
  by_cases hc : (!wd && t2.tooFull) = true
  · rw [if_pos hc]
    refine wpAny_bind (hg _ _ _ ?_)
    have pm := relayAll_perm t2 es1 (SetTable.grown es1.size)
    have ff := relayAll_fits t2 es1 (SetTable.grown es1.size)
    have rr := relayAll_ris t2 es1 (SetTable.grown es1.size)
    have ll := relayAll_led t2 es1 (SetTable.grown es1.size)
    generalize relayAll t2 es1 (SetTable.grown es1.size) = r at pm ff rr ll
    have hz : r.1.size = es1.size := by
      have := pm.length_eq
      simpa using this
    refine wpAny_bind (wpAny_storeSet_of (s := { s with heap := s.heap.update a (Obj.putSet es1 t2) }) st rfl ?_ (fits_of_scanBound (by rw [hz]; exact hb)))
    have st2 := store_at (es' := r.1) (t' := r.2.1) st rfl
    refine wpAny_pure (q _ (Heap.SameBut.trans (Heap.SameBut.update s.heap a (Obj.putSet es1 t2)) (Heap.SameBut.update _ a (Obj.putSet r.1 r.2.1))) ⟨_, r.1, _, r.2.1, st2, hx, rfl, he.perm pm, fun k => (hS k).trans ⟨fun ⟨e, h1, h2⟩ => ⟨e, pm.mem_iff.mpr h1, h2⟩, fun ⟨e, h1, h2⟩ => ⟨e, pm.mem_iff.mp h1, h2⟩⟩, by rw [hz]; exact hb, ff, hz, rr, by rw [ll]; exact hl⟩)
  · rw [if_neg hc]
    exact wpAny_pure (q _ (Heap.SameBut.update s.heap a (Obj.putSet es1 t2)) ⟨_, es1, _, t2, st, hx, rfl, he, hS, hb, hf, rfl, hr, hl⟩)
theorem add_hashed {A : Around} {E : Value → Shared → Prop} {s : Shared} {a : Addr} {S : κ → Bool} {n : Nat} {k : κ} {x : Value} {Q : Bool → Shared → Prop} (hk : knd.is k x = true) (hsx : x.scannable = true) (H : SetS knd s.heap a S n) (hb : n + 1 < scanBound)
    (q : ∀ h', Heap.SameBut a s.heap h' → SetS knd h' a (fun k' => S k' || decide (k' = k)) (if S k = true then n else n + 1) → Q (!S k) { s with heap := h' }) : wpAny (model P w) A (setAddHashed a x (knd.hash k)) Q E s := by
  obtain ⟨o, es, ep, t, ho, hx, hd, he, hS, hb2, hf, hn, hr, hl⟩ := H
  subst hn
  show wpAny _ _ (holding [x] (setAddHashedIn a x (knd.hash k) 100000)) Q E s
  refine wpAny_holding ?_
  rw [setAddHashedIn.eq_def]
  dsimp only
  refine wpAny_bind (wpAny_setState_of ho hd hf ?_)
  dsimp only
  rw [if_pos (byScan_of hsx hb2 he)]
  refine wpAny_bind ?_
  unfold setAddByScan
  refine wpAny_bind (wpAny_rule ?_)
  refine wpAny_bind (wpAny_setScan_of hk ho hd hf he ?_)
  cases hfi : List.findIdx? (fun e => knd.is k e.snd) es.toList with
  | some j =>
    dsimp only
    have hSk : S k = true := by
      obtain ⟨hj, h1, _⟩ := List.findIdx?_eq_some_iff_getElem.mp hfi
      exact (hS k).mpr ⟨_, List.getElem_mem hj, h1⟩
    refine wpAny_pure ?_
    dsimp only
    refine wpAny_pure ?_
    have q := q s.heap (Heap.SameBut.refl _ _)
    rw [if_pos hSk, hSk] at q
    refine q ⟨o, es, ep, t, ho, hx, hd, he, fun k' => ?_, hb2, hf, rfl, hr, hl⟩
    rw [← hS k', Bool.or_eq_true, decide_eq_true_iff]
    exact ⟨fun h => h.elim id fun e => by rw [e]; exact hSk, .inl⟩
  | none =>
    dsimp only
    have hSk : S k = false := by
      cases e : S k with
      | false => rfl
      | true =>
        obtain ⟨y, h1, h2⟩ := (hS k).mp e
        have := List.findIdx?_eq_none_iff.mp hfi y h1
        rw [h2] at this
        cases this
    have pm := layNew_perm t es (knd.hash k) x
    have ff := layNew_fits t es (knd.hash k) x
    have rr := layNew_ris t es (knd.hash k) x hr
    have ll := layNew_led t es (knd.hash k) x
    generalize layNew t es (knd.hash k) x = r at pm ff rr ll
    obtain ⟨es1, t1, wd, gv⟩ := r
    dsimp only at pm ff rr ll ⊢
    have e1 : ElemsOf knd es1.toList := (he.push hk hsx).perm (by rw [Array.toList_push] at pm; exact pm)
    have m1 := mem_push_iff hk hS (l' := es1.toList) (by rw [Array.toList_push] at pm; exact pm)
    have z1 : es1.size = es.size + 1 := by
      have := pm.length_eq
      simpa using this
    have q1 : ∀ h', Heap.SameBut a s.heap h' → SetS knd h' a (fun k' => S k' || decide (k' = k)) es1.size → Q true { s with heap := h' } := fun h' g1 g2 => by
      have q := q h' g1
      rw [hSk, if_neg Bool.false_ne_true, ← z1] at q
      exact q g2
    have hb1 : es1.size < scanBound := by rw [z1]; exact hb
    refine wpAny_bind ?_
    cases gv
    all_goals first | refine wpAny_pure ?_ | refine wpAny_rule ?_
    all_goals
      have gw : ∀ b : Bool, (if b = true then t1 else { t1 with plain := false }).fits es1.size = true ∧ Ris (if b = true then t1 else { t1 with plain := false }).place.toList ∧ (w.params.followText "set-order" = true ∨ (if b = true then t1 else { t1 with plain := false }).led = true) := fun b => by
        cases b with
        | true => exact ⟨ff, rr, by rw [if_pos rfl, ll]; exact hl⟩
        | false => exact ⟨SetTable.fits_plain_off ff, rr, by rw [if_neg Bool.false_ne_true]; exact hl.imp id fun h => ll.trans h⟩
      by_cases hp : t1.plain = true
      · rw [if_pos hp]
        refine wpAny_bind ?_
        rw [hashByValue_scannable 8 hsx]
        refine wpAny_pure ?_
        obtain ⟨g1, g2, g3⟩ := gw (plainKind x)
        exact add_tail (fun b s₁ Q' h => by cases b <;> first | exact wpAny_pure h | exact wpAny_rule h) ho hx hd e1 m1 hb1 g1 g2 g3 fun h' a1 a2 => wpAny_pure (q1 h' a1 a2)
      · rw [if_neg hp]
        refine wpAny_bind ?_
        refine wpAny_pure ?_
        obtain ⟨g1, g2, g3⟩ := gw true
        exact add_tail (fun b s₁ Q' h => by cases b <;> first | exact wpAny_pure h | exact wpAny_rule h) ho hx hd e1 m1 hb1 g1 g2 g3 fun h' a1 a2 => wpAny_pure (q1 h' a1 a2)
end SO
end Fx

namespace Fx
open PySem PySem.Spec PyProof.Rows L2
namespace SO
theorem code_set_led1 {P : Program} {w : World} {A : Around} {E : Value → Shared → Prop} {s : Shared} (a : Value) {Q₁ : Value → Shared → Prop}
    (h : Q₁ (.ref s.heap.objs.size) { s with heap := s.heap.push { cls := .type "set", data := .set #[] 0 (.fresh 0 0 (!w.params.followText "set-order")) } }) :
    codeAny (model P w) A (.call (.builtin "set.__new__") ⟨[.type "set", a], []⟩) (wants Q₁ E) s := by
  refine codeAny_call_builtin_at (plainId_quiet PySem.F.plain_set_new _) PySem.F.entry_set_new (wpAny_of_eq (PySem.F.newCall_set_1 a) ?_)
  rw [Around.under_plainId PySem.F.plain_set_new _]
  show wpAny _ A.in1 (Builtin.Frozenset.newClass "set" ⟨[.type "set", a], []⟩ >>= fun x => newSet x.fst >>= fun y => ret y) _ _ s
  refine wpAny_bind ?_
  unfold Builtin.Frozenset.newClass
  dsimp only
  refine wpAny_bind (wpAny_of_eq (show isType (.type "set") = pure true from rfl) ?_)
  rw [if_neg (by decide)]
  refine wpAny_bind (wpAny_of_eq sub_set_self ?_)
  rw [if_neg (by decide)]
  refine wpAny_pure ?_
  refine wpAny_bind ?_
  unfold newSet
  refine wpAny_bind (wpAny_byText ?_)
  dsimp only
  unfold newObj
  dsimp only
  rw [if_neg (by decide)]
  unfold newObjAsIs
  refine wpAny_bind (wpAny_alloc ?_)
  dsimp only
  refine wpAny_pure ?_
  exact wpAny_pure h
theorem setS_congr {P : Program} {w : World} {κ : Type} [DecidableEq κ] {knd : KeyKind P w κ} {h : Heap} {a : Addr} {S S' : κ → Bool} {n n' : Nat} (H : SetS knd h a S n) (e : ∀ k, S k = S' k) (e2 : n = n') : SetS knd h a S' n' := by
  obtain ⟨o, es, ep, t, h1, h2, h3, h4, h5, h6⟩ := H
  subst e2
  exact ⟨o, es, ep, t, h1, h2, h3, h4, fun k => by rw [← e k]; exact h5 k, h6⟩
theorem setS_fresh {P : Program} {w : World} {κ : Type} [DecidableEq κ] {knd : KeyKind P w κ} {h : Heap} {a : Addr} {led : Bool} (ho : h.get? a = some { cls := .type "set", data := .set #[] 0 (.fresh 0 0 led) }) (hl : led = (!w.params.followText "set-order")) : SetS knd h a (fun _ => false) 0 := by
  refine ⟨_, _, _, _, ho, ?_, rfl, ?_, ?_, by unfold scanBound; decide, ?_, rfl, ?_, ?_⟩
  · exact ⟨rfl, rfl, rfl⟩
  · intro e he; simp at he
  · exact fun k => ⟨nofun, fun ⟨e, he, _⟩ => by simp at he⟩
  · first | rfl | decide
  · exact List.Pairwise.nil
  · rw [hl]
    cases w.params.followText "set-order" with
    | true => exact .inl rfl
    | false => exact .inr rfl
end SO
end Fx
namespace Fx.SS
open PySem PySem.Spec PyProof.Rows
section
variable {prog : Program} {w : World} {A : Around} {R : Result → Shared → Prop} {I : Addr} {fp wr : List Addr} {G : Array GenState → Array GenState → Prop} {n : Nat} {P : Nat → Value → Prop} {St : Nat → Shared → Prop}
theorem loop_ord (W : WalksS prog w A.in1 I fp wr G n P St) (S : Addr) (hSf : S ∉ fp) (key : Nat → Str) (hb : n + 1 < scanBound) (hval : ∀ i v, P i v → ∃ t, v = .str (key i) t) :
    ∀ (k i : Nat) (s : Shared), n - i = k → i ≤ n → St i s → SO.SetS (PySem.strKind prog w) s.heap S (fun q => (met key i).any (· == q)) (met key i).length →
      (∀ s', Moved (S :: wr) G s s' → SO.SetS (PySem.strKind prog w) s'.heap S (fun q => (met key n).any (· == q)) (met key n).length → R (.ok (.ret .none)) s') →
      codeAny (model prog w) A (.builtin "set.update.loop" ⟨[.ref S, .ref I], []⟩) R s := by
  have out : S ∉ wr := fun h => hSf (W.sub _ h)
  have old : ∀ {b}, b ∈ wr → b ∈ S :: wr := fun h => List.mem_cons_of_mem _ h
  have moves : ∀ {s s' : Shared} {S' : Str → Bool} {m : Nat}, Moved wr G s s' → SO.SetS (PySem.strKind prog w) s.heap S S' m → SO.SetS (PySem.strKind prog w) s'.heap S S' m := fun hm ⟨o, es, ep, t, ho, rest⟩ => ⟨o, es, ep, t, hm.heap S _ out ho, rest⟩
  intro k
  induction k with
  | zero =>
    intro i s hk hi st hS q
    obtain rfl : i = n := by omega
    refine codeAny_builtin PyProof.Rows.F.entry_set_update_loop ?_
    rw [Around.under_plainId PyProof.Rows.F.plain_set_update_loop _]
    exact wpAny_bind (W.done s _ _ st fun s' hm => wpAny_pure (q s' (hm.mono fun b hb => old hb) (moves hm hS)))
  | succ k ih =>
    intro i s hk hi st hS q
    have lt : i < n := by omega
    have room : (met key i).length + 1 < scanBound := by have := met_len key i; omega
    refine codeAny_builtin PyProof.Rows.F.entry_set_update_loop ?_
    rw [Around.under_plainId PyProof.Rows.F.plain_set_update_loop _]
    refine wpAny_bind (W.item i s _ _ lt st fun v s' hP st' hm => ?_)
    obtain ⟨t, rfl⟩ := hval i v hP
    show wpAny _ A.in1 (holding [Value.str (key i) t] (setAdd S (.str (key i) t)) >>= _) _ _ s'
    unfold setAdd
    refine wpAny_bind (wpAny_holding (wpAny_holding (wpAny_bind ((PySem.strKind prog w).pyHash (k := key i) (strKind_is _ _ _ _) ?_))))
    have hS1 := moves hm hS
    refine SO.add_hashed (knd := PySem.strKind prog w) (s := { s' with toks := s'.toks + 1 }) (strKind_is _ _ _ _) rfl hS1 room fun h' same hS2 => ?_
    have hS3 : SO.SetS (PySem.strKind prog w) h' S (fun q => (met key (i + 1)).any (· == q)) (met key (i + 1)).length := by
      refine SO.setS_congr hS2 (fun q => ?_) ?_
      · show _ = (if (met key i).any (· == key i) then met key i else met key i ++ [key i]).any (· == q)
        split
        · rename_i c
          by_cases e : q = key i
          · rw [e, c]; rfl
          · simp [e]
        · rw [List.any_append]
          congr 1
          by_cases e : q = key i
          · subst e; simp
          · have e' : (key i == q) = false := beq_eq_false_iff_ne.mpr fun h => e h.symm
            simp [e, e']
      · show _ = (if (met key i).any (· == key i) then met key i else met key i ++ [key i]).length
        split
        · rfl
        · rw [List.length_append, List.length_singleton]
    refine wpAny_pure ⟨plainId_quiet PyProof.Rows.F.plain_set_update_loop _, ih (i + 1) _ (by omega) lt (W.frame _ s' _ _ st' (Nat.le_succ _) fun b hb o e => (same.2 b fun h : b = S => hSf (by rw [← h]; exact hb)).trans e) hS3 fun s2 hm2 hS4 => ?_⟩
    exact q s2 (Moved.trans W.gtrans ((hm.mono fun b hb => old hb).then_heap (Nat.le_succ _) fun b o hb e => (same.2 b fun h : b = S => hb (by rw [h]; exact List.mem_cons_self)).trans e) hm2) hS4
end
section
variable {prog : Program} {w : World} {A : Around} {E : Value → Shared → Prop} {s : Shared}
theorem call_set_ord {l : Addr} {items : Array Value} {key : Nat → Str} {Q : Value → Shared → Prop} (hh : A.handled = none) (hl : s.heap.IsList l items) (hv : ∀ (i : Nat) (v : Value), items[i]? = some v → ∃ t, v = .str (key i) t) (hb : items.size + 1 < scanBound)
    (q : ∀ (h' : Heap) (tk : Nat), SO.SetS (PySem.strKind prog w) h' s.heap.objs.size (fun k => (met key items.size).any (· == k)) (met key items.size).length → (∀ b o, b < s.heap.objs.size → s.heap.get? b = some o → h'.get? b = some o) → Q (.ref s.heap.objs.size) { s with heap := h', toks := tk }) :
    wpAny (model prog w) A (call (.type "set") [.ref l]) Q E s := by
  let S0 (led : Bool) : Obj := { cls := .type "set", dict := none, data := .set #[] 0 (.fresh 0 0 led) }
  obtain ⟨c, tl, hmro⟩ := PySem.F.called_set.mro
  have g1 := PySem.F.called_set.made
  have g2 := PySem.F.called_set.sub
  have g3 := PySem.F.called_set.notType
  have g4 := PySem.F.called_set.canCreate
  have g5 := PySem.F.typeCall_set_1 (.ref l)
  refine wpAny_call (codeAny_of_tree (wpAny_pure ⟨Code.quiet_builtin _ (by decide +kernel), codeAny_builtin PySem.F.entry_type_call ?_⟩))
  rw [Around.under_plain (weight_type_call_type "set" [.ref l] []) rfl]
  repeat (any_goals (first | assumption | wp_step))
  refine codeAny_mono (SO.code_set_led1 (.ref l) (E := E) (Q₁ := fun obj s₁ => ∃ led : Bool, led = (!w.params.followText "set-order") ∧ obj = .ref s.heap.objs.size ∧ s₁ = { s with heap := s.heap.push (S0 led) }) ⟨_, rfl, rfl, rfl⟩) fun r s₁ hr => ?_
  cases r with
  | error e => exact hr
  | ok fl =>
    cases fl with
    | ret obj =>
      obtain ⟨led, hled, rfl, rfl⟩ := hr
      have at0 : (s.heap.push (S0 led)).get? s.heap.objs.size = some (S0 led) := Heap.get?_push_size _ rfl
      have ty0 : Shared.TypeIs { s with heap := s.heap.push (S0 led) } (.ref s.heap.objs.size) "set" := ⟨_, at0, rfl⟩
      have g6 := PySem.F.called_set.init.lookup
      have g7 := PySem.F.called_set.init.bind (.ref s.heap.objs.size)
      repeat (any_goals (first | assumption | wp_step))
      refine codeAny_mono (codeAny_call_builtin (R := wants (fun r s₂ => r = .none ∧ ∃ h' tk, s₂ = { s with heap := h', toks := tk } ∧ SO.SetS (PySem.strKind prog w) h' s.heap.objs.size (fun k => (met key items.size).any (· == k)) (met key items.size).length ∧
          (∀ b o, b < s.heap.objs.size → s.heap.get? b = some o → h'.get? b = some o)) E) PySem.F.called_set.init.plain PySem.F.entry_set_init (check_set_init_1 ty0 ?_)) fun r₂ s₂ hr₂ => ?_
      · obtain ⟨⟨ocls, odict, odata, oslots⟩, hol, hcl, nl, hdl⟩ := hl
        simp only at hcl hdl
        subst hcl; subst hdl
        have hol' : (s.heap.push (S0 led)).get? l = some { cls := .type "list", dict := odict, data := .seq items nl, slots := oslots } := Heap.get?_push_of_some _ hol
        have hl1 : (s.heap.push (S0 led)).IsList l items := ⟨_, hol', rfl, nl, rfl⟩
        have g8 := PySem.F.sub_list_set
        have g9 := PySem.F.sub_list_frozenset
        have g10 : (Value.type "list" == Value.type "dict") = false := by decide
        have lt := Heap.lt_size hol
        have hh3 : A.in1.in1.in1.handled = none := by simp [hh]
        have e1 : (s.heap.push (S0 led)).objs.size = s.heap.objs.size + 1 := Heap.size_push ..
        unfold Builtin.«set.__init__» noKeywords Builtin.Frozenset.updateFrom
        generalize hPI : pyIter = PI
        wp_walk
        subst hPI
        refine wpAny_pyIter_list hl1 (wpAny_bind (wpAny_runValue ?_))
        refine loop_ord ((Walks.list hh3 _ l (by rw [e1]; exact Nat.ne_of_lt (Nat.lt_succ_of_lt lt)) items).toS) s.heap.objs.size (by rw [e1]; simp only [List.mem_cons, List.mem_singleton, List.not_mem_nil, or_false, not_or]; exact ⟨Nat.ne_of_lt (Nat.lt_succ_self _), Nat.ne_of_gt lt⟩) key hb hv (items.size - 0) 0 _ (by omega) (Nat.zero_le _) ⟨⟨_, Heap.get?_push_size _ rfl, rfl, rfl⟩, (hl1.push _)⟩ ?_ ?_
        · exact SO.setS_congr (SO.setS_fresh (Heap.get?_push_of_some _ at0) hled) (fun _ => rfl) rfl
        · intro ⟨h', g', d', tk', os'⟩ hm hS
          obtain rfl : g' = s.gens := hm.gens
          obtain rfl : d' = s.drawn := hm.drawn
          obtain rfl : os' = s.os := hm.os
          refine wpAny_pure ?_
          show wpAny _ _ (ret Value.none) _ _ _
          refine wpAny_pure ⟨rfl, h', tk', rfl, hS, fun b o hlt e => hm.heap b o ?_ (Heap.get?_push_of_some _ (Heap.get?_push_of_some _ e))⟩
          rw [e1]
          simp only [List.mem_cons, List.mem_singleton, List.not_mem_nil, or_false, not_or]
          exact ⟨Nat.ne_of_lt hlt, Nat.ne_of_lt (Nat.lt_succ_of_lt hlt)⟩
      · cases r₂ with
        | error e => exact hr₂
        | ok fl₂ =>
          cases fl₂ with
          | ret r =>
            obtain ⟨rfl, h', tk, rfl, hS, hk⟩ := hr₂
            repeat (any_goals (first | assumption | wp_step))
            exact q _ _ hS hk
          | _ => exact hr₂.elim
    | _ => exact hr.elim
end
end Fx.SS

namespace Fx
open PySem PySem.Spec PyProof.Rows L2 Evl Lk
namespace SO
theorem strs_ofE {P : Program} {w : World} : ∀ (vs : List Value), (∀ v ∈ vs, ∃ k : Str, Value.isStrOf k v = true) → ∃ ks, StrsAre vs ks
  | [], _ => ⟨[], .nil⟩
  | v :: vs, h => by
    obtain ⟨ks, hk⟩ := strs_ofE (P := P) (w := w) vs fun x hx => h x (List.mem_cons_of_mem _ hx)
    obtain ⟨k, e⟩ := h v (List.mem_cons_self ..)
    obtain ⟨t, rfl⟩ := Value.isStrOf_shape e
    exact ⟨k :: ks, .cons k t hk⟩
theorem strs_mem : ∀ {vs : List Value} {ks : List Str}, StrsAre vs ks → ∀ k, k ∈ ks ↔ ∃ v ∈ vs, Value.isStrOf k v = true
  | _, _, .nil, k => ⟨nofun, fun ⟨_, h, _⟩ => nomatch h⟩
  | _, _, .cons y t h, k => by
    have ih := strs_mem h k
    rw [List.mem_cons, ih]
    constructor
    · rintro (rfl | ⟨v, h1, h2⟩)
      · exact ⟨_, List.mem_cons_self .., beq_self_eq_true _⟩
      · exact ⟨v, List.mem_cons_of_mem _ h1, h2⟩
    · rintro ⟨v, h1, h2⟩
      rcases List.mem_cons.mp h1 with rfl | h1
      · exact .inl (eq_of_beq (show (y == k) = true from h2)).symm
      · exact .inr ⟨v, h1, h2⟩
theorem strs_len : ∀ {vs : List Value} {ks : List Str}, StrsAre vs ks → vs.length = ks.length
  | _, _, .nil => rfl
  | _, _, .cons _ _ h => by rw [List.length_cons, List.length_cons, strs_len h]
theorem sorted_ord {P : Program} {w : World} {A : Around} {E : Value → Shared → Prop} {s : Shared} {a : Addr} {S : Str → Bool} {n : Nat} {Q : Value → Shared → Prop} (H : SetS (PySem.strKind P w) s.heap a S n) (hh : A.handled = none) (hn : n < 64)
    (q : ∀ (s' : Shared) (p : Nat) (out : Array Value) (c : Nat) (ys : List Str), (∀ b o, s.heap.get? b = some o → s'.heap.get? b = some o) → s'.gens = s.gens → s'.os = s.os → s.heap.objs.size ≤ p → s'.heap.get? p = some (seqObj "list" out c) → StrsAre out.toList ys → sortedS ys = true → (∀ k, k ∈ ys ↔ S k = true) → ys.length = n → Q (.ref p) s') :
    wpAny (model P w) A (call (.builtin "sorted") [.ref a]) Q E s := by
  obtain ⟨o, es, ep, t, ho, hx, hd, he, hS, hb, hf, hz, hr, hl⟩ := H
  refine Calls.call_function_entry kind_sorted plain_sorted entry_sorted (args_sorted1 _) ?_
  unfold Builtin.sorted
  refine wpAny_bind (wpAny_of_eq (show checkCount "sorted" 1 1 [Value.ref a].length = pure () from rfl) ?_)
  refine wpAny_bind (collect_set (by simp [hh]) ⟨o, ho, hx.1, hd⟩ hf hb hr hl fun s1 out k1 z1 g1 o1 pm => ?_)
  have hk : ∀ v ∈ out, ∃ k : Str, Value.isStrOf k v = true := fun v hv => by
    obtain ⟨e, h1, rfl⟩ := List.mem_map.mp (pm.mem_iff.mp hv)
    obtain ⟨⟨k, h2, _⟩, _⟩ := he e h1
    exact ⟨k, h2⟩
  obtain ⟨ks, sk⟩ := strs_ofE (P := P) (w := w) out hk
  have lo : out.length = n := by rw [pm.length_eq, List.length_map, ← hz]; simp
  have mem : ∀ k, k ∈ ks ↔ S k = true := fun k => by
    rw [strs_mem sk k, hS k]
    constructor
    · rintro ⟨v, h1, h2⟩
      obtain ⟨e, h3, rfl⟩ := List.mem_map.mp (pm.mem_iff.mp h1)
      exact ⟨e, h3, h2⟩
    · rintro ⟨e, h1, h2⟩
      exact ⟨e.2, pm.mem_iff.mpr (List.mem_map.mpr ⟨e, h1, rfl⟩), h2⟩
  refine wpAny_bind (wpAny_newList ?_ (by rw [lo]; exact Nat.le_trans (Nat.le_of_lt hn) (Nat.le_of_ble_eq_true rfl)))
  have at0 : (s1.heap.push (seqObj "list" out.toArray 0)).get? s1.heap.objs.size = some (seqObj "list" out.toArray 0) := Heap.get?_push_size _ rfl
  refine wpAny_bind (wpAny_holding ?_)
  refine wpAny_call_entry (T := "list") slot_list_sort ⟨_, at0, rfl⟩ entry_list_sort ?_ (args_list_sort _)
  refine list_sort_treeK strKind_oneLt at0 sk.keysOf (fun v₁ v₂ rest e => keyKind_strs (ss := ks) (by rw [← e]; exact sk)) (by rw [lo]; exact hn) fun st' pm2 sd => ⟨_, rfl, ?_⟩
  obtain ⟨ys, sy, py, so⟩ := sorted_out_str sk pm2 sd
  refine wpAny_pure ⟨_, rfl, ?_⟩
  obtain ⟨c, hc⟩ := sortedHeap_at (out := Array.map (fun x => x.snd) (arrOf st')) at0
  refine q _ s1.heap.objs.size _ c ys (fun b u hb => ?_) g1 o1 z1 hc sy so (fun k => py.mem_iff.trans (mem k)) (by rw [py.length_eq, ← strs_len sk, lo])
  have hb1 := k1 b u hb
  have lt := Heap.lt_size hb1
  show (sortedHeap _ _ _ _).get? b = some u
  rw [sortedHeap_old (Nat.ne_of_lt lt) (by rw [size_push']; exact Nat.lt_succ_of_lt lt)]
  exact Heap.get?_push_of_some _ hb1
end SO
end Fx

namespace Fx
open PySem PySem.Spec PyProof.Rows L2 Evl Lk
/-! ### lists of texts, each once -/
namespace SO
theorem nodup_le {l m : List Str} : l.Nodup → (∀ x ∈ l, x ∈ m) → l.length ≤ m.length := by
  induction l generalizing m with
  | nil => intros; exact Nat.zero_le _
  | cons x l ih =>
    intro nd h
    obtain ⟨hx, nd⟩ := List.nodup_cons.mp nd
    have hm := h x (List.mem_cons_self ..)
    have i := ih (m := m.erase x) nd fun y hy => (List.mem_erase_of_ne (fun e => hx (by rw [← e]; exact hy))).mpr (h y (List.mem_cons_of_mem _ hy))
    rw [List.length_erase_of_mem hm] at i
    have := List.length_pos_of_mem hm
    rw [List.length_cons]
    omega
theorem nodup_of_len {l m : List Str} : l.Nodup → (∀ x ∈ l, x ∈ m) → m.length ≤ l.length → m.Nodup := by
  induction l generalizing m with
  | nil =>
    intro _ _ h
    rw [List.eq_nil_of_length_eq_zero (Nat.le_zero.mp h)]
    exact List.nodup_nil
  | cons x l ih =>
    intro nd h hl
    obtain ⟨hx, nd'⟩ := List.nodup_cons.mp nd
    have hm := h x (List.mem_cons_self ..)
    have sub : ∀ y ∈ l, y ∈ m.erase x := fun y hy => (List.mem_erase_of_ne (fun e => hx (by rw [← e]; exact hy))).mpr (h y (List.mem_cons_of_mem _ hy))
    have hp := List.length_pos_of_mem hm
    have le : (m.erase x).length ≤ l.length := by rw [List.length_erase_of_mem hm]; rw [List.length_cons] at hl; omega
    have i := ih nd' sub le
    have no : x ∉ m.erase x := fun hx2 => by
      have := nodup_le (m := m.erase x) nd fun y hy => by
        rcases List.mem_cons.mp hy with rfl | hy
        · exact hx2
        · exact sub y hy
      rw [List.length_cons] at this
      omega
    exact (List.perm_cons_erase hm).nodup_iff.mpr (List.nodup_cons.mpr ⟨no, i⟩)
theorem met_mem {key : Nat → Str} : ∀ (i : Nat) (x : Str), x ∈ SS.met key i → ∃ j, j < i ∧ x = key j
  | 0, x, h => by cases h
  | i + 1, x, h => by
    unfold SS.met at h
    split at h
    · obtain ⟨j, h1, h2⟩ := met_mem i x h
      exact ⟨j, by omega, h2⟩
    · rcases List.mem_append.mp h with h | h
      · obtain ⟨j, h1, h2⟩ := met_mem i x h
        exact ⟨j, by omega, h2⟩
      · exact ⟨i, by omega, List.mem_singleton.mp h⟩
theorem mem_met {key : Nat → Str} : ∀ (i j : Nat), j < i → key j ∈ SS.met key i
  | i + 1, j, h => by
    unfold SS.met
    rcases Nat.lt_or_ge j i with l | l
    · have := mem_met (key := key) i j l
      split
      · exact this
      · exact List.mem_append_left _ this
    · obtain rfl : j = i := by omega
      split
      · rename_i h2
        obtain ⟨a, ha, e⟩ := List.any_eq_true.mp h2
        rw [← eq_of_beq e]
        exact ha
      · exact List.mem_append_right _ (List.mem_singleton.mpr rfl)
theorem met_nodup {key : Nat → Str} : ∀ i : Nat, (SS.met key i).Nodup
  | 0 => List.nodup_nil
  | i + 1 => by
    unfold SS.met
    split
    · exact met_nodup i
    · rename_i h
      refine List.nodup_append.mpr ⟨met_nodup i, List.pairwise_singleton _ _, fun a ha b hb e => h ?_⟩
      rw [List.mem_singleton.mp hb] at e
      subst e
      exact List.any_eq_true.mpr ⟨_, ha, beq_self_eq_true _⟩
theorem met_iff {xs : List Str} {k : Str} : k ∈ SS.met (fun i => xs.getD i Str.empty) xs.length ↔ k ∈ xs := by
  constructor
  · intro h
    obtain ⟨j, h1, rfl⟩ := met_mem _ _ h
    rw [List.getD_eq_getElem?_getD, List.getElem?_eq_getElem h1]
    exact List.getElem_mem h1
  · intro h
    obtain ⟨j, h1, rfl⟩ := List.getElem_of_mem h
    have := mem_met (key := fun i => xs.getD i Str.empty) xs.length j h1
    rw [List.getD_eq_getElem?_getD, List.getElem?_eq_getElem h1] at this
    exact this
end SO
/-! ### sorted(set(xs)), xs a list of texts -/
def tSortedSets (K : PySem.W.Frag) (ta : TE) : TE := fun σ H Q => ta σ H fun x H1 => ∃ l, ∃ xs : List Str, x = .ref l ∧ SqL K H1 l (xs.map V.str) ∧ dst xs < 64 ∧ xs.length ≤ 4000 ∧ ∀ (ys : List Str) (p : Addr), ys.Nodup → sortedS ys = true → (∀ y, y ∈ ys ↔ y ∈ xs) → H1 p = none → Q (.ref p) (upd H1 p (.lst (ys.map V.str)))
section
variable {X : Cx} {G : Gx} {w : WE}
theorem pe_sortedSets {a : Expr} {ta : TE} {p p2 q pos : Pos} (hc : X.calm = true) (hg : Gl X "sorted") (hm : X.mg "sorted" = none) (hg2 : Gl X "set") (hm2 : X.mg "set" = none) (ha : PE X a ta)
    (na : starEach [a] X.env = (false, eval a X.env) :: starEach [] X.env := by rfl) : PE X (.Call (.Name "sorted" p) [.Call (.Name "set" p2) [a] [] q] [] pos) (tSortedSets X.K ta) := by
  refine ⟨fun pins s σ H Q I h => ?_⟩
  refine Call_ (ld_blt I hg hm boot_sorted ?_)
  refine PyProof.Rows.callWith_builtin1 (PyProof.Rows.args_cons ?_ rfl) rfl rfl
  refine Call_ (ld_blt I hg2 hm2 boot_set ?_)
  refine PyProof.Rows.callWith_type1 (PyProof.Rows.args_cons (thn (ha.run pins s σ H _ I h) fun v s1 ⟨x, H1, I1, r1, q1⟩ => PyProof.Rows.args_nil ?_) na) na rfl
  obtain ⟨l, xs, rfl, hq, h1, h2, q1⟩ := q1
  cases r1
  obtain ⟨its, r, pl, hz⟩ := I1.list hq
  have sa : StrsAre its xs := strsAre_of r
  have hl : its.toArray.size = xs.length := by rw [List.size_toArray, ← r.length, List.length_map]
  refine SS.call_set_ord (key := fun i => xs.getD i Str.empty) (I1.ok.hd hc) pl.isList (fun i v hv => SS.strs_at sa i v (by simpa using hv)) (by rw [hl]; unfold scanBound; omega) fun h' tk hS hk => ?_
  refine PyProof.Rows.args_nil ?_
  rw [hl] at hS
  have I2 : Inv X pins σ H1 { s1 with heap := h', toks := tk } := I1.kept fun b o e => hk b o (Heap.lt_size e) e
  refine SO.sorted_ord (s := { s1 with heap := h', toks := tk }) hS (I1.ok.hd hc) h1 fun s' p out c ys k g o z hp sy so mem len => ?_
  have fresh : H1 p = none := I2.hok.fresh z
  have nd : ys.Nodup := SO.nodup_of_len (SO.met_nodup _) (fun y hy => (mem y).mpr (List.any_eq_true.mpr ⟨y, hy, beq_self_eq_true _⟩)) (Nat.le_of_eq len)
  have mm : ∀ y, y ∈ ys ↔ y ∈ xs := fun y => (mem y).trans (Iff.trans ⟨fun h => by
    obtain ⟨z, h1, h2⟩ := List.any_eq_true.mp h
    rw [← eq_of_beq h2]
    exact h1, fun h => List.any_eq_true.mpr ⟨y, h, beq_self_eq_true _⟩⟩ SO.met_iff)
  obtain ⟨h2', g2, d2, t2, o2⟩ := s'
  dsimp only at g o hp k z
  subst g o
  refine ⟨.ref p, _, ?_, rfl, q1 ys p nd so mm fresh⟩
  have ob : ObjOk X.prog X.w (upd H1 p (.lst (ys.map V.str))) h2' p (.lst (ys.map V.str)) := ⟨by rw [List.length_map, len]; exact Nat.le_trans (Nat.le_of_lt h1) (Nat.le_of_ble_eq_true rfl), out.toList, c, vals_of_strs sy, hp⟩
  exact Inv.call (s := { s1 with heap := h', toks := tk }) (ch := []) I2 (Un.laid k z fresh) (I2.hok.laid k z ob) I2.bare fun b hb => nomatch hb
def wSortedSets (w : WE) : WE := fun env Q => w env fun r e => ∃ xs : List Str, r = .f (.lst (xs.map D.str)) ∧ dst xs < 64 ∧ xs.length ≤ 4000 ∧ ∀ ys : List Str, ys.Nodup → sortedS ys = true → (∀ y, y ∈ ys ↔ y ∈ xs) → Q (.f (.lst (ys.map D.str))) e
theorem ge_sortedSets {a : Expr} {p p2 q pos : Pos} (hc : X.calm = true) (hg : Gl X "sorted") (hm : X.mg "sorted" = none) (hg2 : Gl X "set") (hm2 : X.mg "set" = none) (ha : GE X G a w) (hK : X.K = G.K := by rfl)
    (na : starEach [a] X.env = (false, eval a X.env) :: starEach [] X.env := by rfl) : GE X G (.Call (.Name "sorted" p) [.Call (.Name "set" p2) [a] [] q] [] pos) (wSortedSets w) := by
  refine ⟨pe_imp (pe_sortedSets hc hg hm hg2 hm2 ha.pe na) fun σ H Q ⟨T, env, F, r, q⟩ => ⟨T, env, F, r, ha.mono _ _ _ (fun s e ⟨xs, hs, h1, h2, q⟩ x T1 H1 F1 f1 a1 z1 => ?_) q⟩, fun env Q Q' i q => ha.mono _ _ _ (fun s e ⟨xs, hs, h1, h2, q⟩ => ⟨xs, hs, h1, h2, fun ys a b c => i _ _ (q ys a b c)⟩) q⟩
  subst hs
  obtain ⟨p, vs, rfl, l, f⟩ := z1.rel.cz (d := .lst (xs.map D.str)) rfl
  rw [fz_strs f] at l
  exact ⟨p, xs, rfl, by rw [hK]; exact l, h1, h2, fun ys p2 nd so mm np => q ys nd so mm (.ref p2) T1 _ F1 [] (a1.trans r.trk (Att.ex a1.re (Ex.new np))) (res_f (fz_new_l a1.re.trk np (fzl_strs ys)))⟩
theorem x_sortedSets {env : Env} {Q : Sl → Env → Prop} (h : w env fun r e => ∃ xs : List Str, r = .f (.lst (xs.map D.str)) ∧ dst xs < 64 ∧ xs.length ≤ 4000 ∧ ∀ ys : List Str, ys.Nodup → sortedS ys = true → (∀ y, y ∈ ys ↔ y ∈ xs) → Q (.f (.lst (ys.map D.str))) e) : wSortedSets w env Q := h
end
end Fx

namespace Fx
open PySem PySem.Spec PyProof.Rows L2 Evl Lk
/-! ### a tuple, a text n times -/
theorem noFill_tuple_mul : fillsNumberSlot (.type "tuple") "mul" = pure false := by first | rfl | decide +kernel
theorem repeat_tuple : seqRepeat? (.type "tuple") = pure (some (.builtin "tuple.__mul__")) := by first | rfl | decide +kernel
theorem rmul_tuple {prog : Program} {w : World} {A : Around} {R : Fin → Shared → Prop} {E : Value → Shared → Prop} {s : Shared} {i : Int} {t : Tok} {l : Addr} {o : Obj} {items : Array Value} {n : Nat} (h : s.heap.get? l = some o) (hd : o.data = .seq items n) (q : R (.done (.ret .notImplemented)) s) :
    wpAny (model prog w) A (Builtin.«int.__rmul__» ⟨[.int i t, .ref l], []⟩) R E s := by
  obtain ⟨cls, dd, data, sl⟩ := o
  simp only at hd
  subst hd
  unfold Builtin.«int.__rmul__» Builtin.Int.intBinary
  repeat (any_goals (first | assumption | wp_step))
theorem mul_list_ {α : Type} (a : Array α) : ∀ (k : Nat) (acc : Array α), (List.foldl (fun x1 x2 => x1 ++ x2) acc (List.replicate k a)).toList = acc.toList ++ (List.replicate k a.toList).flatten
  | 0, acc => by simp
  | k + 1, acc => by
    rw [List.replicate_succ, List.foldl_cons, mul_list_ a k, List.replicate_succ, List.flatten_cons, Array.toList_append, List.append_assoc]
theorem mul_size {α : Type} (a : Array α) (k : Nat) (acc : Array α) : (List.foldl (fun x1 x2 => x1 ++ x2) acc (List.replicate k a)).size = acc.size + k * a.size := by
  have e := congrArg List.length (mul_list_ a k acc)
  rw [List.length_append, Array.length_toList, Array.length_toList] at e
  rw [e]
  congr 1
  simp
theorem tuple_mul {prog : Program} {w : World} {A : Around} {R : Fin → Shared → Prop} {E : Value → Shared → Prop} {s : Shared} {i : Int} {t : Tok} {l : Addr} {o : Obj} {items : Array Value} {n : Nat} (h : s.heap.get? l = some o) (hd : o.data = .seq items n) (hc : o.cls = .type "tuple") (i2 : 2 ≤ i) (i3 : i ≤ 1000) (z1 : 1 ≤ items.size) (z2 : items.size ≤ 1000)
    (q : R (.done (.ret (.ref s.heap.objs.size))) { s with heap := s.heap.push { cls := .type "tuple", data := .seq (List.foldl (fun x1 x2 => x1 ++ x2) #[] (List.replicate i.toNat items)) } }) :
    wpAny (model prog w) A (Builtin.«tuple.__mul__» ⟨[.ref l, .int i t], []⟩) R E s := by
  obtain ⟨cls, dd, data, sl⟩ := o
  simp only at hd hc
  subst hd hc
  have e1 : (decide (i < -2 ^ 63) || decide (i ≥ 2 ^ 63)) = false := by simp; omega
  show wpAny _ _ (ite _ _ _) _ _ _
  rw [if_neg (by rw [e1]; exact Bool.false_ne_true)]
  refine wpAny_bind (wpAny_tupleItemsOf h rfl ?_)
  dsimp only
  have n1 : items.isEmpty = false := by
    cases e : items.isEmpty with
    | false => rfl
    | true =>
      have : items.size = 0 := by simpa [Array.isEmpty] using e
      omega
  have n2 : (i == 1) = false := by
    rw [beq_eq_false_iff_ne]
    omega
  have n3 : decide (i ≤ 0) = false := by simp; omega
  have b1 : (items.size : Int) * i ≤ 1000 * 1000 := Int.mul_le_mul (by omega) (by omega) (by omega) (by decide)
  rw [if_neg (by rw [n1, n2]; decide), if_neg (by rw [n1, n3]; decide), if_neg (by omega), if_neg (by
    unfold Builtin.Tuple.tupleTooMany
    rw [decide_eq_true_iff]
    have : ((sizeLine : Nat) : Int) ≥ 1000 * 1000 := by
      have : (1000000 : Nat) ≤ sizeLine := Nat.le_of_ble_eq_true rfl
      omega
    omega)]
  refine wpAny_bind ?_
  unfold Builtin.Tuple.tupleExact newObj
  dsimp only
  have fsz : (List.foldl (fun x1 x2 => x1 ++ x2) #[] (List.replicate i.toNat items)).size = i.toNat * items.size := by
    rw [mul_size]
    simp
  have b2 : i.toNat * items.size ≤ 1000 * 1000 := Nat.mul_le_mul (by omega) z2
  rw [if_neg (by
    rw [fsz]
    have : (1000000 : Nat) ≤ sizeLine := Nat.le_of_ble_eq_true rfl
    omega)]
  unfold newObjAsIs
  refine wpAny_bind (wpAny_alloc ?_)
  dsimp only
  refine wpAny_pure ?_
  exact wpAny_pure q
theorem tuple_mul0 {prog : Program} {w : World} {A : Around} {R : Fin → Shared → Prop} {E : Value → Shared → Prop} {s : Shared} {i : Int} {t : Tok} {l : Addr} {o : Obj} {items : Array Value} {n : Nat} (h : s.heap.get? l = some o) (hd : o.data = .seq items n) (hc : o.cls = .type "tuple") (i2 : 2 ≤ i) (i3 : i ≤ 1000) (z1 : items.size = 0)
    (q : R (.done (.ret (.ref l))) s) : wpAny (model prog w) A (Builtin.«tuple.__mul__» ⟨[.ref l, .int i t], []⟩) R E s := by
  obtain ⟨cls, dd, data, sl⟩ := o
  simp only at hd hc
  subst hd hc
  have e1 : (decide (i < -2 ^ 63) || decide (i ≥ 2 ^ 63)) = false := by simp; omega
  show wpAny _ _ (ite _ _ _) _ _ _
  rw [if_neg (by rw [e1]; exact Bool.false_ne_true)]
  refine wpAny_bind (wpAny_tupleItemsOf h rfl ?_)
  dsimp only
  have n1 : items.isEmpty = true := by simpa [Array.isEmpty] using z1
  rw [if_pos (by rw [n1]; rfl)]
  refine wpAny_bind ?_
  unfold Builtin.Tuple.tupleIsExact
  refine wpAny_bind (wpAny_typeOf_ref h ?_)
  refine wpAny_pure ?_
  rw [if_pos (show (Value.type "tuple" == Value.type "tuple") = true by decide)]
  refine wpAny_bind (wpAny_rule ?_)
  exact wpAny_pure q
theorem vs_len {α : Type} (k : Nat) (xs : List α) : k * xs.length = (List.replicate k xs).flatten.length := by
  induction k with
  | zero => simp
  | succ k ih =>
    rw [List.replicate_succ, List.flatten_cons, List.length_append, ← ih, Nat.succ_mul]
    omega
theorem op_mulT {X : Cx} : OpR X (binaryOp .Mult) (fun x y H Q => ∃ (a : Addr) (xs : List V) (n : Int), x = .ref a ∧ y = .int n ∧ SqT X.K H a xs ∧ xs.length ≤ 1000 ∧ 2 ≤ n ∧ n ≤ 1000 ∧ (xs = [] → Q (.ref a) H) ∧ (xs ≠ [] → ∀ p, H p = none → Q (.ref p) (upd H p (.tup (List.replicate n.toNat xs).flatten)))) := by
  intro pins s σ H x y v u Q I rx ry ⟨a, xs, n, h1, h2, hq, z, n2, n3, q0, q1⟩
  subst h1 h2
  cases rx
  obtain ⟨t, rfl⟩ := ry
  obtain ⟨its, r, ⟨o, g1, g2, m, g3⟩, _⟩ := I.tuple hq
  have len : its.length = xs.length := r.length.symm
  have ty : s.TypeIs (.ref a) "tuple" := ⟨o, g1, g2⟩
  refine wpAny_binaryOp_repeat_ref (T := "tuple") (U := "int") (by decide) ty (fun s' => typeIs_int s' _ _) noFill_tuple_mul PySem.F.fills_int_mul PySem.F.slot_int_rmul repeat_tuple PySem.F.slot_int_index.lookup ?_
  refine wpAny_call_entry PySem.F.slot_int_rmul (typeIs_int s _ _) PySem.F.entry_int_rmul (rmul_tuple g1 g3 ⟨_, rfl, rfl, ty, ?_⟩) (PySem.F.args_int_rmul_2 _ _)
  by_cases e : xs = []
  · refine wpAny_call_entry PySem.F.slot_tuple_mul ty PySem.F.entry_tuple_mul (tuple_mul0 g1 g3 g2 n2 n3 ?_ ⟨_, rfl, .ref a, H, I, rfl, q0 e⟩) (PySem.F.args_tuple_mul_2 _ _)
    rw [List.size_toArray, len, e]
    rfl
  · have l1 : 1 ≤ xs.length := by
      cases xs with
      | nil => exact absurd rfl e
      | cons _ _ => exact Nat.succ_le_succ (Nat.zero_le _)
    have fr : H s.heap.objs.size = none := I.hok.fresh (Nat.le_refl _)
    refine wpAny_call_entry PySem.F.slot_tuple_mul ty PySem.F.entry_tuple_mul (tuple_mul g1 g3 g2 n2 n3 (by rw [List.size_toArray, len]; exact l1) (by rw [List.size_toArray, len]; exact z) ⟨_, rfl, .ref _, upd H s.heap.objs.size (.tup (List.replicate n.toNat xs).flatten), ?_, rfl, q1 e _ fr⟩) (PySem.F.args_tuple_mul_2 _ _)
    have arr : List.foldl (fun x1 x2 => x1 ++ x2) #[] (List.replicate n.toNat its.toArray) = (List.replicate n.toNat its).flatten.toArray := by
      apply Array.toList_inj.mp
      rw [mul_list_]
      simp
    rw [arr]
    have vs : Vals (List.replicate n.toNat xs).flatten (List.replicate n.toNat its).flatten := by
      generalize n.toNat = k
      induction k with
      | zero => exact .nil
      | succ k ih =>
        rw [List.replicate_succ, List.replicate_succ, List.flatten_cons, List.flatten_cons]
        exact r.append ih
    have lz : (List.replicate n.toNat xs).flatten.length ≤ sizeLine := by
      rw [← vs_len n.toNat xs]
      have : n.toNat * xs.length ≤ 1000 * 1000 := Nat.mul_le_mul (by omega) z
      exact Nat.le_trans this (Nat.le_of_ble_eq_true rfl)
    exact I.laid (t' := s.toks) (fun b u e => Heap.get?_push_of_some _ e) (Nat.le_refl _) ⟨lz, _, vs, ⟨_, Heap.get?_push_size _ rfl, rfl, _, rfl⟩⟩
def repS (k : Nat) (x : Str) : Str := ⟨List.foldl (fun x1 x2 => x1 ++ x2) #[] (List.replicate k x.cps)⟩
theorem repS_list (k : Nat) (x : Str) : (repS k x).cps.toList = (List.replicate k x.cps.toList).flatten := by
  show (List.foldl (fun x1 x2 => x1 ++ x2) #[] (List.replicate k x.cps)).toList = _
  rw [mul_list_]
  simp
theorem op_mulStr {X : Cx} : OpR X (binaryOp .Mult) (fun x y H Q => ∃ (a : Str) (n : Int), x = .str a ∧ y = .int n ∧ 1 ≤ a.length ∧ a.length ≤ 1000 ∧ 2 ≤ n ∧ n ≤ 1000 ∧ Q (.str (repS n.toNat a)) H) := by
  intro pins s σ H x y v u Q I rx ry ⟨a, n, h1, h2, z1, z2, n2, n3, q⟩
  subst h1 h2
  obtain ⟨t1, rfl⟩ := rx
  obtain ⟨t2, rfl⟩ := ry
  refine wpAny_binaryOp_repeat (T := "str") (U := "int") (by decide) (fun s' => typeIs_str s' _ _) (fun s' => typeIs_int s' _ _) noFill_str_mul PySem.F.fills_int_mul PySem.F.slot_int_rmul repeat_str PySem.F.slot_int_index.lookup ?_
  refine call_gives PySem.F.slot_int_rmul (typeIs_int s _ _) PySem.F.entry_int_rmul (PySem.F.args_int_rmul_2 _ _) (AutoIntG1.int___rmul___int_str_0 _ _ _ _) ⟨rfl, ?_⟩
  have g := gives_str_mul a n t1 t2 (by simp; omega) (fun _ _ => by
      have : (1000 : Int) ≤ (2 ^ 63 - 1) / n := by
        refine Int.le_ediv_of_mul_le (by omega) ?_
        omega
      omega) (fun _ _ => by
      unfold Builtin.Str.tooLong
      have : a.length * n.toNat ≤ 1000 * 1000 := Nat.mul_le_mul z2 (by omega)
      have : (1000000 : Nat) ≤ sizeLine := Nat.le_of_ble_eq_true rfl
      simp
      omega)
  rw [if_neg (by omega), if_neg (by
    rw [Bool.or_eq_true, beq_iff_eq, beq_iff_eq]
    omega)] at g
  refine call_gives PySem.F.slot_str_mul (typeIs_str s _ _) PySem.F.entry_str_mul (PySem.F.args_str_mul_2 _ _) g ?_
  refine ⟨?_, .str (repS n.toNat a), H, I.tok _, ⟨_, rfl⟩, q⟩
  show (List.foldl (fun x1 x2 => x1 ++ x2) #[] (List.replicate n.toNat a.cps)).size ≤ sizeLine
  rw [mul_size]
  have : n.toNat * a.length ≤ 1000 * 1000 := Nat.mul_le_mul (by omega) z2
  have : (1000000 : Nat) ≤ sizeLine := Nat.le_of_ble_eq_true rfl
  show (#[] : Array Nat).size + n.toNat * a.length ≤ sizeLine
  simp
  omega
/-- a tuple, a text times a number -/
def dMulS : Op2
  | .tup ds, .int n, Q => ds.length ≤ 1000 ∧ 2 ≤ n ∧ n ≤ 1000 ∧ Q (.tup (List.replicate n.toNat ds).flatten)
  | .str x, .int n, Q => 1 ≤ x.length ∧ x.length ≤ 1000 ∧ 2 ≤ n ∧ n ≤ 1000 ∧ Q (.str (repS n.toNat x))
  | _, _, _ => False
theorem FzL.rep {K : PySem.W.Frag} {H : Hp} {vs : List V} {ds : List D} (h : FzL K H vs ds) : ∀ k : Nat, FzL K H (List.replicate k vs).flatten (List.replicate k ds).flatten
  | 0 => .nil
  | k + 1 => by
    rw [List.replicate_succ, List.replicate_succ, List.flatten_cons, List.flatten_cons]
    exact h.append (h.rep k)
section
variable {X : Cx} {G : Gx}
theorem opx_mulS (hK : X.K = G.K := by rfl) : OpX X G (binaryOp .Mult) dMulS := by
  refine ⟨fun pins s σ H x y v u Q I rx ry ⟨T, d1, d2, t, c1, c2, q⟩ => ?_, fun a b Q Q' i q => ?_⟩
  · cases d1 with
    | str a =>
      cases d2 with
      | int j =>
        cases c1
        cases c2
        exact op_mulStr pins s σ H _ _ v u Q I rx ry ⟨a, j, rfl, rfl, q.1, q.2.1, q.2.2.1, q.2.2.2.1, q.2.2.2.2 _ H (Ex.refl H) (.str _)⟩
      | _ => exact (show False from q).elim
    | tup a =>
      cases d2 with
      | int j =>
        cases c2
        cases c1 with
        | tup l1 f1 =>
          have k1 := ex_t (K := G.K) hid_ex l1
          refine op_mulT pins s σ H _ _ v u Q I rx ry ⟨_, _, j, rfl, rfl, by rw [hK]; exact k1, by rw [f1.length]; exact q.1, q.2.1, q.2.2.1, fun e => ?_, fun e p np => ?_⟩
          · have q2 := q.2.2.2
            subst e
            cases f1
            rw [show (List.replicate j.toNat ([] : List D)).flatten = [] by simp] at q2
            exact q2 _ H (Ex.refl H) (.tup l1 .nil)
          · exact q.2.2.2 _ _ (Ex.new np) (fz_new_t t np (f1.rep _))
      | _ => exact (show False from q).elim
    | _ => exact (show False from q).elim
  · cases a with
    | str a =>
      cases b with
      | int j => exact ⟨q.1, q.2.1, q.2.2.1, q.2.2.2.1, i _ q.2.2.2.2⟩
      | _ => exact (show False from q).elim
    | tup a =>
      cases b with
      | int j => exact ⟨q.1, q.2.1, q.2.2.1, i _ q.2.2.2⟩
      | _ => exact (show False from q).elim
    | _ => exact (show False from q).elim
theorem x_mulT {ds : List D} {n : Int} {QD : D → Prop} (z : ds.length ≤ 1000) (n2 : 2 ≤ n) (n3 : n ≤ 1000) (h : QD (.tup (List.replicate n.toNat ds).flatten)) : dMulS (.tup ds) (.int n) QD := ⟨z, n2, n3, h⟩
theorem x_mulStr {x : Str} {n : Int} {QD : D → Prop} (z1 : 1 ≤ x.length) (z : x.length ≤ 1000) (n2 : 2 ≤ n) (n3 : n ≤ 1000) (h : QD (.str (repS n.toNat x))) : dMulS (.str x) (.int n) QD := ⟨z1, z, n2, n3, h⟩
end
end Fx

namespace Fx
open PySem PySem.Spec PyProof.Rows L2 Evl Lk
/-! ### a list, a text any number of times -/
theorem repS_zero (x : Str) : repS 0 x = Str.empty := rfl
theorem repS_one (x : Str) : repS 1 x = x := by
  refine TL.ext_tl ?_
  show (repS 1 x).cps.toList = x.cps.toList
  rw [repS_list]
  simp
theorem repS_none {x : Str} (h : x.length = 0) (k : Nat) : repS k x = x := by
  have e : x.cps.toList = [] := List.length_eq_zero_iff.mp (by rw [← TL.len_tl]; exact h)
  refine TL.ext_tl ?_
  show (repS k x).cps.toList = x.cps.toList
  rw [repS_list, e]
  simp
theorem op_mulStrG {X : Cx} : OpR X (binaryOp .Mult) (fun x y H Q => ∃ (a : Str) (n : Int), x = .str a ∧ y = .int n ∧ a.length ≤ 1000 ∧ 0 ≤ n ∧ n ≤ 1000 ∧ Q (.str (repS n.toNat a)) H) := by
  intro pins s σ H x y v u Q I rx ry ⟨a, n, h1, h2, z2, n2, n3, q⟩
  subst h1 h2
  obtain ⟨t1, rfl⟩ := rx
  obtain ⟨t2, rfl⟩ := ry
  refine wpAny_binaryOp_repeat (T := "str") (U := "int") (by decide) (fun s' => typeIs_str s' _ _) (fun s' => typeIs_int s' _ _) noFill_str_mul PySem.F.fills_int_mul PySem.F.slot_int_rmul repeat_str PySem.F.slot_int_index.lookup ?_
  refine call_gives PySem.F.slot_int_rmul (typeIs_int s _ _) PySem.F.entry_int_rmul (PySem.F.args_int_rmul_2 _ _) (AutoIntG1.int___rmul___int_str_0 _ _ _ _) ⟨rfl, ?_⟩
  have g := gives_str_mul a n t1 t2 (by simp; omega) (fun _ _ => by
      have : (1000 : Int) ≤ (2 ^ 63 - 1) / n := by
        refine Int.le_ediv_of_mul_le (by omega) ?_
        omega
      omega) (fun _ _ => by
      unfold Builtin.Str.tooLong
      have : a.length * n.toNat ≤ 1000 * 1000 := Nat.mul_le_mul z2 (by omega)
      have : (1000000 : Nat) ≤ sizeLine := Nat.le_of_ble_eq_true rfl
      simp
      omega)
  refine call_gives PySem.F.slot_str_mul (typeIs_str s _ _) PySem.F.entry_str_mul (PySem.F.args_str_mul_2 _ _) g ?_
  by_cases h0 : n < 1
  · rw [if_pos h0]
    obtain rfl : n = 0 := by omega
    exact ⟨Nat.zero_le _, .str Str.empty, H, I.tok _, ⟨_, rfl⟩, q⟩
  · rw [if_neg h0]
    by_cases h1 : (n == 1 || a.length == 0) = true
    · rw [if_pos h1]
      have e : repS n.toNat a = a := by
        rw [Bool.or_eq_true, beq_iff_eq, beq_iff_eq] at h1
        rcases h1 with rfl | h1
        · exact repS_one a
        · exact repS_none h1 _
      rw [e] at q
      exact ⟨.str a, H, I, ⟨_, rfl⟩, q⟩
    · rw [if_neg h1]
      refine ⟨?_, .str (repS n.toNat a), H, I.tok _, ⟨_, rfl⟩, q⟩
      show (List.foldl (fun x1 x2 => x1 ++ x2) #[] (List.replicate n.toNat a.cps)).size ≤ sizeLine
      rw [mul_size]
      have : n.toNat * a.length ≤ 1000 * 1000 := Nat.mul_le_mul (by omega) z2
      have : (1000000 : Nat) ≤ sizeLine := Nat.le_of_ble_eq_true rfl
      show (#[] : Array Nat).size + n.toNat * a.length ≤ sizeLine
      simp
      omega
theorem op_mulL {X : Cx} : OpR X (binaryOp .Mult) (fun x y H Q => ∃ (a : Addr) (xs : List V) (n : Int), x = .ref a ∧ y = .int n ∧ SqL X.K H a xs ∧ xs.length ≤ 1000 ∧ 0 ≤ n ∧ n ≤ 1000 ∧ ∀ p, H p = none → Q (.ref p) (upd H p (.lst (List.replicate n.toNat xs).flatten))) := by
  intro pins s σ H x y v u Q I rx ry ⟨a, xs, n, h1, h2, hq, z, n2, n3, q1⟩
  subst h1 h2
  cases rx
  obtain ⟨t, rfl⟩ := ry
  obtain ⟨its, r, ⟨o, m, g1, g2, g3, g4⟩, _⟩ := I.list hq
  obtain ⟨cls, dd, data, sl⟩ := o
  simp only at g2 g4
  subst g2 g4
  have len : its.length = xs.length := r.length.symm
  have ty : s.TypeIs (.ref a) "list" := ⟨_, g1, rfl⟩
  refine wpAny_binaryOp_repeat_ref (T := "list") (U := "int") (by decide) ty (fun s' => typeIs_int s' _ _) noFill_list_mul PySem.F.fills_int_mul PySem.F.slot_int_rmul repeat_list PySem.F.slot_int_index.lookup ?_
  refine wpAny_call_entry PySem.F.slot_int_rmul (typeIs_int s _ _) PySem.F.entry_int_rmul (rmul_tuple g1 rfl ⟨_, rfl, rfl, ty, ?_⟩) (PySem.F.args_int_rmul_2 _ _)
  have fr : H s.heap.objs.size = none := I.hok.fresh (Nat.le_refl _)
  have b1 : its.toArray.size * n.toNat ≤ 1000 * 1000 := Nat.mul_le_mul (by rw [List.size_toArray, len]; exact z) (by omega)
  refine call_meets PySem.F.slot_list_mul ty PySem.F.entry_list_mul (PySem.F.args_list_mul_2 _ _) (lm_list_mul_any a its.toArray m dd sl n t (by unfold Builtin.List.listFitsIndex; simp; omega) (by omega) (by
    unfold Builtin.List.listTooLong
    have : (1000000 : Nat) ≤ sizeLine := Nat.le_of_ble_eq_true rfl
    simp at b1 ⊢
    omega)) ⟨g1, .ref _, upd H s.heap.objs.size (.lst (List.replicate n.toNat xs).flatten), ?_, rfl, q1 _ fr⟩
  have arr : List.foldl (fun x1 x2 => x1 ++ x2) #[] (List.replicate (if its.toArray.isEmpty = true then 0 else n.toNat) its.toArray) = (List.replicate n.toNat its).flatten.toArray := by
    apply Array.toList_inj.mp
    rw [mul_list_]
    by_cases e : its.toArray.isEmpty = true
    · have e' : its = [] := by simpa [Array.isEmpty] using e
      rw [if_pos e, e']
      simp
    · rw [if_neg e]
      simp
  rw [arr]
  have vs : Vals (List.replicate n.toNat xs).flatten (List.replicate n.toNat its).flatten := by
    generalize n.toNat = k
    induction k with
    | zero => exact .nil
    | succ k ih =>
      rw [List.replicate_succ, List.replicate_succ, List.flatten_cons, List.flatten_cons]
      exact r.append ih
  have lz : (List.replicate n.toNat xs).flatten.length ≤ sizeLine := by
    rw [← vs_len n.toNat xs]
    have : n.toNat * xs.length ≤ 1000 * 1000 := Nat.mul_le_mul (by omega) z
    exact Nat.le_trans this (Nat.le_of_ble_eq_true rfl)
  exact I.laid (t' := s.toks) (fun b u e => Heap.get?_push_of_some _ e) (Nat.le_refl _) ⟨lz, _, _, vs, Heap.get?_push_size _ rfl⟩
/-- a list, a text times a number -/
def dMulG : Op2
  | .lst ds, .int n, Q => ds.length ≤ 1000 ∧ 0 ≤ n ∧ n ≤ 1000 ∧ Q (.lst (List.replicate n.toNat ds).flatten)
  | .str x, .int n, Q => x.length ≤ 1000 ∧ 0 ≤ n ∧ n ≤ 1000 ∧ Q (.str (repS n.toNat x))
  | _, _, _ => False
section
variable {X : Cx} {G : Gx}
theorem opx_mulG (hK : X.K = G.K := by rfl) : OpX X G (binaryOp .Mult) dMulG := by
  refine ⟨fun pins s σ H x y v u Q I rx ry ⟨T, d1, d2, t, c1, c2, q⟩ => ?_, fun a b Q Q' i q => ?_⟩
  · cases d1 with
    | str a =>
      cases d2 with
      | int j =>
        cases c1
        cases c2
        exact op_mulStrG pins s σ H _ _ v u Q I rx ry ⟨a, j, rfl, rfl, q.1, q.2.1, q.2.2.1, q.2.2.2 _ H (Ex.refl H) (.str _)⟩
      | _ => exact (show False from q).elim
    | lst a =>
      cases d2 with
      | int j =>
        cases c2
        obtain ⟨p, vs, rfl, l1, f1⟩ := c1
        refine op_mulL pins s σ H _ _ v u Q I rx ry ⟨_, _, j, rfl, rfl, by rw [hK]; exact l1, by rw [f1.length]; exact q.1, q.2.1, q.2.2.1, fun p np => ?_⟩
        exact q.2.2.2 _ _ (Ex.new np) (fz_new_l t np (f1.rep _))
      | _ => exact (show False from q).elim
    | _ => exact (show False from q).elim
  · cases a with
    | str a =>
      cases b with
      | int j => exact ⟨q.1, q.2.1, q.2.2.1, i _ q.2.2.2⟩
      | _ => exact (show False from q).elim
    | lst a =>
      cases b with
      | int j => exact ⟨q.1, q.2.1, q.2.2.1, i _ q.2.2.2⟩
      | _ => exact (show False from q).elim
    | _ => exact (show False from q).elim
theorem x_mulLG {ds : List D} {n : Int} {QD : D → Prop} (z : ds.length ≤ 1000) (n2 : 0 ≤ n) (n3 : n ≤ 1000) (h : QD (.lst (List.replicate n.toNat ds).flatten)) : dMulG (.lst ds) (.int n) QD := ⟨z, n2, n3, h⟩
theorem x_mulSG {x : Str} {n : Int} {QD : D → Prop} (z : x.length ≤ 1000) (n2 : 0 ≤ n) (n3 : n ≤ 1000) (h : QD (.str (repS n.toNat x))) : dMulG (.str x) (.int n) QD := ⟨z, n2, n3, h⟩
end
end Fx

/-! an own exception class called with a keyword -/
namespace Fx
namespace KwX
open PySem PySem.Spec L2 PyProof.Rows
section
variable {M : Model} {A : Around} {E : Value → Shared → Prop} {h : Heap} {g : Array GenState} {d : Drawn} {t : Nat} {os : OsState} {nm q : Str} {C N : Addr} {bs bm bmB : List Value} {hdct : Bool} {sn : List Str} {sub : List Value} {ab : Bool} {col : Option Bool} {dd : Option Addr}
  {k0 k1 k2 k3 k5 : Option Value} {B newId initId : String}
theorem check_tc_kw {kw : List (Str × Value)} {Q : Unit → Shared → Prop} (hC : h.get? C = some (excClassObj nm q C N bs bm hdct sn sub ab col dd k0 k1 k2 k3 k5 newId)) (hq : Q () ⟨h, g, d, t, os⟩) : wpAny M A (checkBuiltinCall "type.__call__" ⟨[.ref C], kw⟩) Q E ⟨h, g, d, t, os⟩ := by
  have ty : Shared.TypeIs ⟨h, g, d, t, os⟩ (.ref C) "type" := ⟨_, hC, rfl⟩
  unfold checkBuiltinCall
  simp only [tc_kind, tc_split]
  refine wpAny_bind (wpAny_isInstance ty tc_sub ?_)
  rw [if_neg (by decide)]
  obtain ⟨sg, e1, e2⟩ : ∃ s : Manifest.Signature, Manifest.signature? "type.__call__" = some s ∧ s = ⟨.hand, "wrapper __call__", "", .self, []⟩ := ⟨_, rfl, rfl⟩
  rw [e1]
  subst e2
  dsimp only
  unfold Bind.checkArgs
  dsimp only
  repeat (any_goals (first | assumption | wp_step))
theorem checkArgs_any {id : String} {f sh : String} {r : Manifest.Receiver} {ps : List Manifest.Param} {pos : List Value} {kw : List (Str × Value)} : Bind.checkArgs id ⟨.any, f, sh, r, ps⟩ ⟨pos, kw⟩ = Bind.checkArgs id ⟨.any, f, sh, r, ps⟩ ⟨pos, []⟩ := by
  unfold Bind.checkArgs
  dsimp only
  rfl
theorem check_new_kw {kw : List (Str × Value)} : checkBuiltinCall "ValueError.__new__" ⟨[.ref C], kw⟩ = checkBuiltinCall "ValueError.__new__" ⟨[.ref C], []⟩ := by
  unfold checkBuiltinCall
  simp only [PySem.F.excBase_ValueError.newKind, PySem.F.excBase_ValueError.newSplit]
  obtain ⟨sg, e1, e2⟩ : ∃ s : Manifest.Signature, Manifest.signature? "ValueError.__new__" = some s ∧ s.machinery = .any := ⟨_, rfl, rfl⟩
  rw [e1]
  obtain ⟨m, f, sh, r, ps⟩ := sg
  dsimp only at e2
  subst e2
  dsimp only
  rw [checkArgs_any]
/-- ValueError.__new__(C, **kw): the arguments left empty -/
theorem new_kw {prog : Program} {w : World} {A : Around} {R : Result → Shared → Prop} {kw : List (Str × Value)} (nm0 : ∀ X : String, bm.contains (.type X) = bmB.contains (.type X)) (F : ExcBaseFacts "ValueError" "ValueError.__new__" initId bmB)
    (hC : h.get? C = some (excClassObj nm q C N bs bm hdct sn sub ab col dd k0 k1 k2 k3 k5 "ValueError.__new__"))
    (hq : R (.ok (.ret (.ref (h.objs.size + 1)))) ⟨(h.push { cls := .type "tuple", data := .seq #[] }).push { cls := .ref C, data := .fields #[.ref h.objs.size, .none, .none, .none, .bool false, .none] }, g, d, t, os⟩) :
    codeAny (model prog w) A (.builtin "ValueError.__new__" ⟨[.ref C], kw⟩) R ⟨h, g, d, t, os⟩ := by
  refine codeAny_builtinAt F.entry ?_
  unfold Builtin.«BaseException.__new__»
  refine PySem.wpAt_bind ?_
  refine PySem.wpAt_bind (PySem.wpAt_stack fun p below => ?_)
  dsimp only
  refine PySem.wpAt_of_wpAny ?_
  rw [if_pos F.ends, F.owner]
  refine wpAny_pure ?_
  refine PySem.wpAt_of_wpAny ?_
  have hC0 : h.get? C = some { cls := .type "type", dict := dd, data := (excClassObj nm q C N bs bm hdct sn sub ab col dd k0 k1 k2 k3 k5 "ValueError.__new__").data, slots := (excClassObj nm q C N bs bm hdct sn sub ab col dd k0 k1 k2 k3 k5 "ValueError.__new__").slots } := hC
  refine wpAny_bind ?_
  unfold isType
  dsimp only
  refine wpAny_bind (wpAny_loadPart_at hC ?_)
  refine wpAny_pure ?_
  rw [if_neg (by show ¬ (!true) = true; decide)]
  have cs : ∀ X : String, ((.ref C : Value) :: bm).contains (.type X) = bmB.contains (.type X) := fun X => by
    rw [List.contains_cons, nm0 X]
    rfl
  refine wpAny_bind (wpAny_isSubtype_exc hC ?_)
  rw [cs, F.hasB, if_neg (by decide)]
  refine wpAny_bind (wpAny_madeHere_exc F.canon hC ?_)
  refine wpAny_bind (wpAny_bind (wpAny_isSubtype_exc hC ?_))
  rw [cs, F.noAttr, if_neg Bool.false_ne_true]
  refine wpAny_bind (wpAny_isSubtype_exc hC ?_)
  rw [cs, F.noName, if_neg Bool.false_ne_true]
  refine wpAny_pure ?_
  refine wpAny_bind ?_
  unfold newTuple newObj
  dsimp only
  rw [if_neg (by decide)]
  unfold newObjAsIs
  refine wpAny_bind (wpAny_alloc ?_)
  dsimp only
  refine wpAny_pure ?_
  refine wpAny_bind ?_
  rw [if_neg (by
    have : (6 : Nat) ≤ sizeLine := Nat.le_of_ble_eq_true rfl
    simp
    omega)]
  refine wpAny_bind (wpAny_alloc ?_)
  have z : (h.push { cls := .type "tuple", data := .seq #[] }).objs.size = h.objs.size + 1 := Heap.size_push ..
  have h2 := Heap.get?_push_of_some { cls := .ref C, data := .fields (#[.ref h.objs.size, .none, .none, .none, .bool false, .none] ++ (List.replicate 0 (rawInt 0)).toArray) } (Heap.get?_push_of_some { cls := .type "tuple", data := .seq #[] } hC)
  refine wpAny_bind ?_
  unfold classHasDel
  refine wpAny_bind (wpAny_load' h2 ?_)
  refine wpAny_pure ?_
  rw [if_neg (show ¬ false = true by decide)]
  refine wpAny_pure ?_
  refine wpAny_pure ?_
  rw [z]
  exact hq
theorem type_call_kw {prog : Program} {w : World} {A : Around} {kw : List (Str × Value)} {fI : Addr} {Q : PySem.Fin → Shared → Prop} (nm0 : ∀ X : String, bm.contains (.type X) = bmB.contains (.type X)) (F : ExcBaseFacts "ValueError" "ValueError.__new__" initId bmB)
    (hC : h.get? C = some (excClassObj nm q C N bs bm hdct sn sub ab col dd k0 k1 k2 k3 k5 "ValueError.__new__")) (iC : W.Looks (model prog w) h (typeLookup (.ref C) (Str.ofString "__init__")) (some (.ref fI))) (bI : ∀ self : Value, W.Looks (model prog w) h (bindSpecial (.ref fI) self) (.ref fI, [self]))
    (hq : codeAny (model prog w) A (.call (.ref fI) ⟨[.ref (h.objs.size + 1)], kw⟩) (fun r s' =>
      match r with
      | .ok (.ret v) => v = .none ∧ Q (.done (.ret (.ref (h.objs.size + 1)))) s'
      | .ok _ => False
      | .error e => E e s') ⟨(h.push { cls := .type "tuple", data := .seq #[] }).push { cls := .ref C, data := .fields #[.ref h.objs.size, .none, .none, .none, .bool false, .none] }, g, d, t, os⟩) :
    wpAny (model prog w) A (Builtin.«type.__call__» ⟨[.ref C], kw⟩) Q E ⟨h, g, d, t, os⟩ := by
  unfold Builtin.«type.__call__»
  dsimp only
  rw [if_neg (show ¬ ((Value.ref C == Value.type "type") = true) from by simp)]
  refine wpAny_bind ?_
  unfold mroOf
  dsimp only
  refine wpAny_bind ?_
  unfold classData
  refine wpAny_bind (wpAny_load' hC ?_)
  refine wpAny_pure ?_
  refine wpAny_pure ?_
  rw [if_neg (show ¬ (((.ref C : Value) :: bm).isEmpty = true) from by simp)]
  refine wpAny_bind (wpAny_madeBy_exc hC ?_)
  dsimp only
  refine wpAny_bind (wpAny_pure ?_)
  refine wpAny_bind (wpAny_holding (wpAny_call ?_))
  refine codeAny_call_builtin_code (Code.quiet_builtin _ F.quiet) ?_
  rw [check_new_kw]
  refine HandSPX.check_new_own (rest := []) F nm0 hC ?_
  refine new_kw nm0 F hC ?_
  dsimp only
  have z : (h.push { cls := .type "tuple", data := .seq #[] }).objs.size = h.objs.size + 1 := Heap.size_push ..
  have kp : ∀ b o, h.get? b = some o → ((h.push { cls := .type "tuple", data := .seq #[] }).push { cls := .ref C, data := .fields #[.ref h.objs.size, .none, .none, .none, .bool false, .none] }).get? b = some o := fun b o e => Heap.get?_push_of_some _ (Heap.get?_push_of_some _ e)
  have he : ((h.push { cls := .type "tuple", data := .seq #[] }).push { cls := .ref C, data := .fields #[.ref h.objs.size, .none, .none, .none, .bool false, .none] }).get? (h.objs.size + 1) = some { cls := .ref C, data := .fields #[.ref h.objs.size, .none, .none, .none, .bool false, .none] } := by
    rw [← z]
    exact Heap.get?_push_size _ rfl
  refine wpAny_bind ?_
  unfold isInstance
  refine wpAny_bind (wpAny_typeOf_ref he ?_)
  refine wpAny_isSubtype_exc (kp _ _ hC) ?_
  rw [if_neg (show ¬ ((!((.ref C : Value) :: bm).contains (.ref C)) = true) from by simp)]
  refine wpAny_bind (wpAny_holding ?_)
  unfold callSpecial?
  refine wpAny_bind ?_
  unfold specialOf
  refine wpAny_bind (wpAny_typeOf_ref he ?_)
  have i1 := iC.keeps kp
  have b1 := (bI (.ref (h.objs.size + 1))).keeps kp
  refine i1.at ?_
  dsimp only
  refine wpAny_holding (wpAny_bind (b1.at ?_))
  dsimp only
  refine wpAny_bind (wpAny_call (codeAny_mono hq fun r s' z => ?_))
  rcases r with e | (v | _ | _ | _) <;> first | exact z | exact z.elim | skip
  obtain ⟨rfl, z⟩ := z
  first
    | exact wpAny_pure (wpAny_pure z)
    | (wp_walk; exact z)
open PySem.HandSPX in
theorem call_kw {prog : Program} {w : World} {A : Around} {R : Result → Shared → Prop} {kw : List (Str × Value)} {fI : Addr} (nm0 : ∀ X : String, bm.contains (.type X) = bmB.contains (.type X)) (F : ExcBaseFacts "ValueError" "ValueError.__new__" initId bmB)
    (hC : h.get? C = some (excClassObj nm q C N bs bm hdct sn sub ab col dd k0 k1 k2 k3 k5 "ValueError.__new__")) (iC : W.Looks (model prog w) h (typeLookup (.ref C) (Str.ofString "__init__")) (some (.ref fI))) (bI : ∀ self : Value, W.Looks (model prog w) h (bindSpecial (.ref fI) self) (.ref fI, [self]))
    (hq : codeAny (model prog w) (A.under (.builtin "type.__call__" ⟨[.ref C], kw⟩)) (.call (.ref fI) ⟨[.ref (h.objs.size + 1)], kw⟩) (W.InitBack (h.objs.size + 1) R)
      ⟨(h.push { cls := .type "tuple", data := .seq #[] }).push { cls := .ref C, data := .fields #[.ref h.objs.size, .none, .none, .none, .bool false, .none] }, g, d, t, os⟩) :
    codeAny (model prog w) A (.call (.ref C) ⟨[], kw⟩) R ⟨h, g, d, t, os⟩ := by
  have f1 := tc_lookup
  have f2 := tc_bind (.ref C)
  have hTy : (⟨h, g, d, t, os⟩ : Shared).TypeIs (.ref C) "type" := ⟨_, hC, rfl⟩
  refine codeAny_of_tree ?_
  show wpAny _ _ (callAny (.ref C) _) _ _ _
  repeat (any_goals (first | assumption | with_reducible refine wpAny_loadPart_at hC ?_ | wp_step))
  refine ⟨rfl, ?_⟩
  refine codeAny_call_builtin_at (Code.quiet_builtin _ (by decide +kernel)) entry_typeCall (check_tc_kw hC (type_call_kw nm0 F hC iC bI ?_))
  refine codeAny_mono hq fun r s' z => ?_
  rcases r with e | (v | _ | _ | _) <;> exact z
end
end KwX
end Fx
namespace PySem
namespace RowX
open PySem.W PySem.Calls PyProof.Rows PySem.HandSPX
section
variable {prog : Program} {w : World} {A : Around} {E : Value → Shared → Prop} {R : Result → Shared → Prop} {s : Shared} {K : Frag} {mg mb : Str → Option Value} {x : Str} {C : Addr}
theorem row_init_kw (T : RowTxt prog K mg x C) {fI e t0 : Addr} {n : Int} {tn : Tok} (hfI : findIn K (.ref C) "__init__" = some (some (.ref fI))) (X : K.In s.heap) (hg : s.heap.Ns mainGlobals mg) (hb : s.heap.Ns builtinsNs mb) (hbb : ∀ x : Str, x ≠ "__name__" → mb x = bootBuiltins x) (hlim : s.heap.NoLimit) (hx : s.heap.get? e = some (excO C t0)) (hnx : K.lookup e = none) (hroom : A.depth < recursionLimit) (hz : n.natAbs.log2 < 1920)
    (hs : mg "super" = none) (hq : ∀ h' tk dx t1, InitEnd s.heap h' e C dx t1 (.int n tn) → R (.ok (.ret .none)) { s with heap := h', toks := tk }) :
    codeAny (model prog w) A (.call (.ref fI) ⟨[.ref e], [("row", .int n tn)]⟩) R s := by
  obtain ⟨fI', qn, m, oc, od, doc, pm, an, cda, cc, ct, osl, p1, p2, r0, r1, r2, r3, r4, r5, r6, r7, r8, q1, q2, q3, q4, vs, file, tf, ccl, cl, cdd, cld, ccs, csl, hi, htf, ho, hcd, hcode, hvs, hfile, hcell, hm, hline⟩ := T.fn
  rw [hfI] at hi
  cases hi
  obtain ⟨nm, q, N, bs, bm, sn, sub, ab, col, dd, k0, k1, k2, k3, k5, hC, hbm, hal, _⟩ := T.cls
  have hcl : clsIn K C = some { name := nm, bases := bs, mro := .ref C :: bm, ns := N, qualname := q, hasDict := true, slotNames := sn, subclasses := sub, abstract := ab, collection := col, hasDel := false } := by unfold clsIn; rw [hC] <;> rfl
  have hcS : ∀ y ∈ iS.names, y.2 ≠ .cell := by decide
  have hlS : ∀ y ∈ [(("self" : Str), Value.ref e), (("row" : Str), Value.int n tn)], iS.names.lookup y.1 = some .local := fun y hy => by
    simp only [List.mem_cons, List.not_mem_nil, or_false] at hy
    rcases hy with rfl | rfl <;> rfl
  refine ks_codeAny_call_defAt (fd := ksFn "__init__" qn (iA p1 p2) (iB m r0 r1 r2 r3 r4 r5 r6 r7 r8 q1 q2 q3 q4) iS .none .none doc pm an (.ref cda) ct cc) (binds := [("self", .ref e), ("row", .int n tn)]) hroom (X _ _ ho) rfl hlim (codeRec_of X hcd) rfl (BindsTo.of_eq (by first | rfl | with_unfolding_all rfl)) hcS hlS (fun h₁ hn k => ?_)
  have X₁ : K.In h₁ := X.keeps k
  have hx₁ := k _ _ hx
  obtain ⟨hh, g, d, tk, os⟩ := s
  dsimp only at hn k X₁ hx₁ hx X hg hb hlim hq ⊢
  have hD1 : h₁.get? C = some (excClassObj nm q C N bs bm true sn sub ab col dd k0 k1 k2 k3 k5 "ValueError.__new__") := X₁ _ _ hC
  -- super().__init__(f"..")
  refine ks_wpAt_execs_cons (ks_wpAt_Expr_any (ks_wpAt_MethodCall (he := eval_meth rfl hline) (ks_wpAt_super_base (f := fI) (cc := cda) rfl rfl (by decide) rfl (X₁ _ _ ho) rfl rfl rfl (X₁ _ _ hcode) rfl hvs hfile T.top ?_)))
  have hnC : e ≠ C := fun z => by rw [z, hC] at hnx; cases hnx
  refine ks_loadName_global rfl rfl (loadGlobal_builtin (hg.keeps k) hs (hb.keeps k) ((hbb _ (by decide +kernel)).trans (by decide +kernel)) ⟨rfl, ?_⟩)
  refine wpAny_loadName_free rfl rfl rfl ⟨_, X₁ _ _ hcell, rfl⟩ ?_
  refine wpAny_loadName_local rfl rfl hn (by first | rfl | with_unfolding_all rfl) ?_
  refine ks_wpAny_isType_cls hD1 rfl ⟨rfl, ?_⟩
  refine ks_wpAny_call_super hD1 rfl hx₁ rfl (fun c z => nomatch z) (looks_subIn X₁ T.scC) (fun h₂ so k₂ => ?_)
  have X₂ : K.In h₂ := X₁.keeps k₂
  have hx₂ := k₂ _ _ hx₁
  have I₂ : InstAt h₂ e (excO C t0) C none := ⟨hx₂, rfl, rfl, trivial⟩
  refine kxs_getMethod kxs_ValueError so (looks_opaque X₂ T.opq) (l₀ := .ref C :: bm) (fun A Q E s k q => wpAny_bind ((looks_clsIn X₂ hcl) A _ E s k (wpAny_pure q))) (ESX.drop_own C bm) X₂ hal (I₂.type.andThen (looks_subIn X₂ T.exV)) hnC (by decide) ?_
  have k₃ : ∀ b o, h₂.get? b = some o → (h₂.push (kxs_mw "ValueError.__init__" e)).get? b = some o := fun b o q => Heap.get?_push_of_some _ q
  have hu : (h₂.push (kxs_mw "ValueError.__init__" e)).get? h₂.objs.size = some (kxs_mw "ValueError.__init__" e) := Heap.get?_push_at rfl rfl
  have hn₃ := (hn.keeps k₂).keeps k₃
  have hnum : (Str.ofString (toString n)).length ≤ 2000 := by
    have a := int_text_length_le (k := 1920) (by decide) hz
    rw [ofString_length]
    omega
  have hcat : ∀ a b : Str, (a ++ b).length = a.length + b.length := fun a b => by
    show (a.cps ++ b.cps).size = _
    rw [Array.size_append]
    rfl
  have he0 : (Str.empty).length = 0 := rfl
  have hsz : 4000 ≤ sizeLine := by rw [sizeLine_eq]; decide
  refine kxs_callWith (i := "ValueError.__init__") (x := e) rfl (evalArgs_plain ?_)
  show wpAny _ _ (spliced [(false, eval (.JoinedStr [.Constant (.str m) 0 r5, .FormattedValue (.Name "row" r6) (-1) none r7] r8) _)]) _ _ _
  refine Calls.spliced_cons (wpAny_JoinedStr ?_)
  show wpAny _ _ (eval (.Constant (.str m) 0 r5) _) _ _ _
  refine Calls.Constant_str ⟨m, _, rfl, (by rw [hcat, he0]; omega), ?_⟩
  show wpAny _ _ (eval (.FormattedValue (.Name "row" r6) (-1) none r7) _) _ _ _
  refine wpAny_FormattedValue_plain (ldL (v := .int n tn) hn₃ (by first | rfl | with_unfolding_all rfl) (wpAny_formatField_int hz ⟨Str.ofString (toString n), _, rfl, (by rw [hcat, hcat, he0]; omega), (by rw [hcat, hcat, he0]; omega), Calls.spliced_nil ⟨hu, ?_⟩⟩))
  refine call_mw (k₃ _ _ (X₂ _ _ hC)) (k₃ _ _ hx₂) hu (one_size _) (fun h₅ t1 k₅ hx₅ => ?_)
  -- self.row = row
  have nL : hh.objs.size ≠ e := Nat.ne_of_gt (Heap.lt_size hx)
  have hn₅ : h₅.Ns hh.objs.size _ := hn₃.at' fun o q => k₅ _ o nL q
  have X₅ : K.In h₅ := fun a o q => k₅ a o (fun z => by rw [z, hnx] at q; cases q) (k₃ _ _ (X₂ a o q))
  refine ks_wpAt_execs_cons (ks_wpAt_Assign_Attr (wpAt_of_wpAny (ldL (v := .int n tn) hn₅ (by first | rfl | with_unfolding_all rfl) (ldL (v := .ref e) hn₅ (by first | rfl | with_unfolding_all rfl) ?_))))
  refine set_plain X₅ (ox := excO C t1) (od := none) ⟨hx₅, rfl, rfl, trivial⟩ T.sa ?_
  refine exc_osa X₅ hx₅ hcl (show refsVE (.ref C :: bm) = true from hbm) rfl T.noN (fun h₆ tk₆ dx k₆ dn dne hx₆ hn₆ => ?_)
  refine wpAt_of_wpAny (wpAny_execs_nil (hq h₆ tk₆ dx t1 ⟨fun b o hb q => k₆ b o hb (k₅ b o hb (k₃ _ _ (k₂ _ _ (k _ _ q)))), hx₆, Nat.le_of_lt (Nat.lt_of_lt_of_le hn₅.lt dn), dne, hn₆⟩))
theorem row_made_kw (T : RowTxt prog K mg x C) {n : Int} {tn : Tok} (X : K.In s.heap) (hg : s.heap.Ns mainGlobals mg) (hb : s.heap.Ns builtinsNs mb) (hbb : ∀ x : Str, x ≠ "__name__" → mb x = bootBuiltins x) (hlim : s.heap.NoLimit) (hroom : A.depth + 1 < recursionLimit) (hz : n.natAbs.log2 < 1920) (hs : mg "super" = none)
    (hq : ∀ h' tk e d, OwnMade s.heap h' e C d (.int n tn) → R (.ok (.ret (.ref e))) { s with heap := h', toks := tk }) :
    codeAny (model prog w) A (.call (.ref C) ⟨[], [("row", .int n tn)]⟩) R s := by
  obtain ⟨nm, q, N, bs, bm, sn, sub, ab, col, dd, k0, k1, k2, k3, k5, hC, hbm, _⟩ := T.cls
  obtain ⟨fI, _, _, _, _, _, _, _, _, _, _, _, _, _, _, _, _, _, _, _, _, _, _, _, _, _, _, _, _, _, _, _, _, _, _, _, iC, tC, _⟩ := T.fn
  obtain ⟨hp, g, dr, tk, os⟩ := s
  have k : ∀ b o, hp.get? b = some o → ((hp.push (kdv_tup [])).push (excO C hp.objs.size)).get? b = some o := fun b o e => Heap.get?_push_of_some _ (Heap.get?_push_of_some _ e)
  have hget : ((hp.push (kdv_tup [])).push (excO C hp.objs.size)).get? (hp.objs.size + 1) = some (excO C hp.objs.size) := by heap_get
  have hnx : K.lookup (hp.objs.size + 1) = none := by
    cases e : K.lookup (hp.objs.size + 1) with
    | none => rfl
    | some o =>
      have z : hp.get? (hp.objs.size + 1) = some o := X _ _ e
      exact absurd (Nat.lt_of_succ_lt (Heap.lt_size z)) (Nat.lt_irrefl _)
  refine Fx.KwX.call_kw (fun X => refsVE_contains X bm hbm) F.excBase_ValueError (X _ _ hC) (looks_findIn X iC) (fun self => bind_fn X self tC) ?_
  refine row_init_kw (s := ⟨(hp.push (kdv_tup [])).push (excO C hp.objs.size), g, dr, tk, os⟩) T iC (X.keeps k) (hg.keeps k) (hb.keeps k) hbb (hlim.keeps k) hget hnx ?_ hz hs fun h' tk' dx t1 ⟨k', hx, dn, dne, hns⟩ => ?_
  · show A.depth + 1 < recursionLimit
    exact hroom
  · have old : ∀ b o, hp.get? b = some o → h'.get? b = some o := fun b o e => k' b o (Nat.ne_of_lt (Nat.lt_succ_of_lt (Heap.lt_size e))) (k b o e)
    have z : hp.objs.size + 1 + 1 ≤ dx := by
      first
        | (simpa only [Heap.size_push] using dn)
        | exact dn
        | (have q := dn; rw [Heap.size_push, Heap.size_push] at q; exact q)
    exact ⟨rfl, hq h' tk' (hp.objs.size + 1) dx ⟨old, Nat.le_succ _, ⟨_, _, hx, rfl, rfl, rfl, rfl⟩, Nat.le_trans (Nat.le_trans (Nat.le_succ _) (Nat.le_succ _)) z, dne, hns⟩⟩
end
end RowX
end PySem

/-! own exceptions as values: C(text), C(n) with a row, C(row=n) -/
namespace Fx
open PySem PySem.Spec PyProof.Rows L2 Evl Lk
/-- C(e), an own exception class without a row -/
def wExcN (C : Addr) (w : WE) : WE := fun env Q => w env fun _ e => Q (.f (.ty (.exc C none))) e
/-- C(e), with a row -/
def wExcR (C : Addr) (w : WE) : WE := fun env Q => w env fun r e => ∃ n, r = .f (.int n) ∧ n.natAbs.log2 < 1920 ∧ Q (.f (.ty (.exc C (some n)))) e
def tExR (C : Addr) (ta : TE) : TE := fun σ H Q => ta σ H fun v H1 => ∃ n, [v] = [V.int n] ∧ n.natAbs.log2 < 1920 ∧ ∀ d a, H1 d = none → H1 a = none → a ≠ d → Q (.ref a) (upd (upd H1 d (.xd [(("row" : Str), .int n)])) a (ExTk a (.ref C) (some d)))
section
variable {X : Cx} {G : Gx} {x : Str} {C : Addr} {e : Expr} {w : WE} {ta : TE} {p p2 pos : Pos} {k : Nat}
theorem pe_excN (O : OwnX X.K X.mg x C) (hg : Gl X x) (he : PE X e ta) (hs : starEach [e] X.env = (false, eval e X.env) :: starEach [] X.env := by rfl) (hdb : (x == ("__debug__" : Str)) = false := by decide) :
    PE X (.Call (.Name x p) [e] [] pos) (fun σ H Q => ta σ H fun _ H1 => ∀ a, H1 a = none → Q (.ref a) (upd H1 a (ExTk a (.ref C) none))) := by
  refine ⟨fun pins s σ H Q I h => ?_⟩
  refine wpAny_Call_Name_kw (ld_glob I hg O.g ?_ hdb)
  refine PySem.W.callWith_K (h₀ := X.base) I.ok.mod.kin O.k ?_ hs (by rfl)
  rw [hs]
  show wpAny _ _ (spliced ((false, eval e X.env) :: backTo pos (starEach [] X.env))) _ _ s
  refine Calls.spliced_cons (thn (he.run pins s σ H _ I h) fun u s1 ⟨v, H1, I1, r1, q1⟩ => ?_)
  refine Calls.spliced_nil ⟨I1.kIn, ?_⟩
  show wpAny _ _ (call (.ref C) [u]) _ _ _
  obtain ⟨bm, N, nm, qn, bs, hdct, sn, sub, ab, col, dd, k0, k1, k2, k3, k5, mN, hC, hN, hni, T⟩ := exc_obj I1.kIn O.e
  refine wpAny_call_exc_subT PySem.F.excBase_ValueError T hC hN hni (fun h' a hm => ?_) (by show 1 ≤ sizeLine; rw [sizeLine_eq]; omega)
  have hn : H1 a = none := I1.hok.gone hm.new
  obtain ⟨t, ht, _, _⟩ := hm.there
  exact ⟨.ref a, upd H1 a (ExTk a (.ref C) none), I1.laidN hm.keeps hm.new hn (exTk_ok ht ⟨rfl, rfl⟩ rfl), rfl, q1 a hn⟩
/-- what a made one with a row leaves -/
theorem own_made {pins : List (Addr × Obj)} {σ : L2.St} {H1 : Hp} {hp h' : Heap} {g : Array GenState} {dr : Drawn} {tk tk' : Nat} {os : OsState} {ea d : Addr} {n : Int} {tn : Tok} {Q : VK} (I1 : Inv X pins σ H1 ⟨hp, g, dr, tk, os⟩) (M : PySem.RowX.OwnMade hp h' ea C d (.int n tn))
    (q1 : ∀ d a, H1 d = none → H1 a = none → a ≠ d → Q (.ref a) (upd (upd H1 d (.xd [(("row" : Str), .int n)])) a (ExTk a (.ref C) (some d)))) : EP X pins σ Q (.ref ea) ⟨h', g, dr, tk', os⟩ := by
  obtain ⟨oe, fv, hoe, hc, hd, hdat, h1⟩ := M.obj
  have hns := M.ns
  obtain ⟨G', g1, g2⟩ := restrict h' fun b => decide (b ≠ ea)
  have gk : ∀ b, b ≠ ea → G'.get? b = h'.get? b := fun b hb => g1 b (decide_eq_true hb)
  have ge : G'.get? ea = none := g2 ea (by simp)
  have old : ∀ b o, hp.get? b = some o → G'.get? b = some o := fun b o q => (gk b (Nat.ne_of_lt (Nat.lt_of_lt_of_le (Heap.lt_size q) M.new))).trans (M.keep b o q)
  have ob : ObjOk X.prog X.w (upd H1 d (.xd [(("row" : Str), .int n)])) G' d (.xd [(("row" : Str), .int n)]) :=
    ⟨_, hns.at (fun o q => (gk d M.dne).trans q), fun f => relO_row (v := .int n) ⟨tn, rfl⟩ f⟩
  have J : Inv X pins σ (upd H1 d (.xd [(("row" : Str), .int n)])) ⟨G', g, dr, tk', os⟩ := I1.laid (t' := tk') old M.dbig ob
  have na : H1 ea = none := I1.hok.fresh M.new
  have nd : H1 d = none := I1.hok.fresh M.dbig
  have nu : (upd H1 d (.xd [(("row" : Str), .int n)])) ea = none := by rw [upd_ne (Ne.symm M.dne)]; exact na
  have kp : ∀ b u, G'.get? b = some u → h'.get? b = some u := fun b o q => by
    by_cases hb : b = ea
    · rw [hb, ge] at q; cases q
    · exact (gk b hb).symm.trans q
  have J2 : Inv X pins σ (upd (upd H1 d (.xd [(("row" : Str), .int n)])) ea (ExTk ea (.ref C) (some d))) ⟨h', g, dr, tk', os⟩ := J.laidN (t' := tk') kp ge nu (exTk_ok hoe ⟨hc, hd⟩ hdat)
  exact ⟨.ref ea, _, J2, rfl, q1 d ea nd na (Ne.symm M.dne)⟩
theorem pe_excR (T : PySem.RowX.RowTxt X.prog X.K X.mg x C) (hs : X.mg "super" = none) (hr : Room k X.A) (ha : PE X e ta) (hg : Gl X x) (hdb : (x == ("__debug__" : Str)) = false := by decide)
    (he : starEach [e] X.env = (false, eval e X.env) :: starEach [] X.env := by rfl) :
    PE X (.Call (.Name x p) [e] [] pos) (tExR C ta) := by
  refine ⟨fun pins s σ H Q I h => ?_⟩
  refine wpAny_Call_Name_kw (ld_glob I hg T.gC ?_ hdb)
  refine PySem.W.callWith_K (h₀ := X.base) I.ok.mod.kin T.kC ?_ he (by rfl)
  rw [he]
  show wpAny _ _ (spliced ((false, eval e X.env) :: backTo pos (starEach [] X.env))) _ _ s
  refine Calls.spliced_cons (thn (ha.run pins s σ H _ I h) fun u s1 ⟨v, H1, I1, r1, n, ev, hz, q1⟩ => ?_)
  refine Calls.spliced_nil ⟨I1.kIn, ?_⟩
  cases ev
  obtain ⟨tn, rfl⟩ := r1
  show wpAny _ _ (call (.ref C) [.int n tn]) _ _ _
  have hlim := I1.nolimit
  obtain ⟨mb, hb1, hb2⟩ := I1.mod.blt
  have hglob := I1.mod.glob.keeps I1.bk
  have hbl := hb1.keeps I1.bk
  have kin := I1.kIn
  obtain ⟨hp, g, dr, tk, os⟩ := s1
  exact wpAny_call (PySem.RowX.row_made T kin hglob hbl hb2 hlim (by have := hr.dp; omega) hz hs fun h' tk' ea d M => own_made I1 M q1)
theorem pe_excK {kpos : Pos} (T : PySem.RowX.RowTxt X.prog X.K X.mg x C) (hs : X.mg "super" = none) (hr : Room k X.A) (ha : PE X e ta) (hg : Gl X x) (hdb : (x == ("__debug__" : Str)) = false := by decide)
    (hall : (backToKw pos (keywordEach [⟨some "row", e, kpos⟩] X.env)).all (·.1.isSome) = true := by rfl) (hks : (backToKw pos (keywordEach [⟨some "row", e, kpos⟩] X.env)).filterMap (·.1) = [("row" : Str)] := by rfl)
    (hpl : ((backTo pos (starEach [] X.env)).any (·.1) || (backToKw pos (keywordEach [⟨some "row", e, kpos⟩] X.env)).any (·.1.isNone)) = false := by rfl) :
    PE X (.Call (.Name x p) [] [⟨some "row", e, kpos⟩] pos) (tExR C ta) := by
  refine ⟨fun pins s σ H Q I h => ?_⟩
  refine wpAny_Call_Name_kw (ld_glob I hg T.gC ?_ hdb)
  refine PySem.W.callWith_KW0 (h₀ := X.base) I.ok.mod.kin T.kC hall ?_ hpl
  rw [hks]
  refine thn ((pk_cons ha pk_nil).run pos pins s σ H (fun vs H1 => ∃ n, vs = [.int n] ∧ n.natAbs.log2 < 1920 ∧ ∀ d a, H1 d = none → H1 a = none → a ≠ d → Q (.ref a) (upd (upd H1 d (.xd [(("row" : Str), .int n)])) a (ExTk a (.ref C) (some d)))) I ?_) fun us s1 ⟨vs, H1, I1, r1, n, ev, hz, q1⟩ => ⟨I1.kIn, ?_⟩
  · exact h
  · subst ev
    cases r1 with
    | cons rv rn =>
      cases rn
      obtain ⟨tn, rfl⟩ := rv
      show wpAny _ _ (call (.ref C) [] [("row", .int n tn)]) _ _ _
      have hlim := I1.nolimit
      obtain ⟨mb, hb1, hb2⟩ := I1.mod.blt
      have hglob := I1.mod.glob.keeps I1.bk
      have hbl := hb1.keeps I1.bk
      have kin := I1.kIn
      obtain ⟨hp, g, dr, tk, os⟩ := s1
      exact wpAny_call (PySem.RowX.row_made_kw T kin hglob hbl hb2 hlim (by have := hr.dp; omega) hz hs fun h' tk' ea d M => own_made I1 M q1)
theorem ge_excN (O : OwnX X.K X.mg x C) (hg : Gl X x) (he : GE X G e w) (hs : starEach [e] X.env = (false, eval e X.env) :: starEach [] X.env := by rfl) (hdb : (x == ("__debug__" : Str)) = false := by decide) : GE X G (.Call (.Name x p) [e] [] pos) (wExcN C w) := by
  refine ⟨pe_imp (pe_excN O hg he.pe hs hdb) fun σ H Q ⟨T, env, F, r, q⟩ => ?_, fun env Q Q' i q => he.mono _ _ _ (fun r e q => i _ _ q) q⟩
  show tW G w σ H _
  refine ⟨T, env, F, r, he.mono _ _ _ (fun s e q v T1 H1 F1 fr at1 z a na => ?_) q⟩
  have ex : Ex H1 (upd H1 a (ExTk a (.ref C) none)) := Ex.new na
  exact q _ T1 _ F1 [] (at1.trans r.trk (.ex at1.re ex)) (res_f (.exc (hid_of upd_same (nT at1.re.trk na)) rfl))
theorem exR_core {σ : L2.St} {H : Hp} {Q : VK} (hm : MonoE w) (h : tW G (wExcR C w) σ H Q) : tExR C (tW G w) σ H Q := by
  obtain ⟨T, env, F, r, q⟩ := h
  refine ⟨T, env, F, r, hm _ _ _ (fun s e ⟨n, h1, h2, q⟩ v T1 H1 F1 fr at1 z => ?_) q⟩
  subst h1
  have hv := z.rel.1
  cases hv
  refine ⟨n, rfl, h2, fun d a nd na hne => ?_⟩
  have ex : Ex H1 (upd H1 d (.xd [(("row" : Str), .int n)])) := Ex.new nd
  have na' : (upd H1 d (.xd [(("row" : Str), .int n)])) a = none := by rw [upd_ne hne]; exact na
  have ex2 : Ex (upd H1 d (.xd [(("row" : Str), .int n)])) (upd (upd H1 d (.xd [(("row" : Str), .int n)])) a (ExTk a (.ref C) (some d))) := Ex.new na'
  have r1 := at1.re.ex ex
  have r2 := r1.ex ex2
  refine q _ T1 _ F1 [] (at1.trans r.trk ((Att.ex at1.re ex).trans at1.re.trk (.ex r1 ex2))) (res_f (.exc (hid_of upd_same (nT r1.trk na')) ⟨d, rfl, hid_of ?_ (nT at1.re.trk nd)⟩))
  rw [upd_ne (Ne.symm hne)]
  exact upd_same
theorem mono_excR (hm : MonoE w) : MonoE (wExcR C w) := fun env Q Q' i q => hm _ _ _ (fun r e ⟨n, h1, h2, q⟩ => ⟨n, h1, h2, i _ _ q⟩) q
theorem ge_excR (T : PySem.RowX.RowTxt X.prog X.K X.mg x C) (hs : X.mg "super" = none) (hr : Room k X.A) (hg : Gl X x) (ha : GE X G e w) (hdb : (x == ("__debug__" : Str)) = false := by decide)
    (he : starEach [e] X.env = (false, eval e X.env) :: starEach [] X.env := by rfl) : GE X G (.Call (.Name x p) [e] [] pos) (wExcR C w) :=
  ⟨pe_imp (pe_excR T hs hr ha.pe hg hdb he) fun σ H Q h => exR_core ha.mono h, mono_excR ha.mono⟩
theorem ge_excK {kpos : Pos} (T : PySem.RowX.RowTxt X.prog X.K X.mg x C) (hs : X.mg "super" = none) (hr : Room k X.A) (hg : Gl X x) (ha : GE X G e w) (hdb : (x == ("__debug__" : Str)) = false := by decide)
    (hall : (backToKw pos (keywordEach [⟨some "row", e, kpos⟩] X.env)).all (·.1.isSome) = true := by rfl) (hks : (backToKw pos (keywordEach [⟨some "row", e, kpos⟩] X.env)).filterMap (·.1) = [("row" : Str)] := by rfl)
    (hpl : ((backTo pos (starEach [] X.env)).any (·.1) || (backToKw pos (keywordEach [⟨some "row", e, kpos⟩] X.env)).any (·.1.isNone)) = false := by rfl) : GE X G (.Call (.Name x p) [] [⟨some "row", e, kpos⟩] pos) (wExcR C w) :=
  ⟨pe_imp (pe_excK T hs hr ha.pe hg hdb hall hks hpl) fun σ H Q h => exR_core ha.mono h, mono_excR ha.mono⟩
end
end Fx

/-! what the top has written of classes that are kin -/
namespace Fx
open PySem PySem.Spec PyProof.Rows L2 Evl Lk
def ownB (K : PySem.W.Frag) (C : Addr) : Bool := PySem.W.keepIn K (.ref C) && (PySem.W.subIn K (.ref C) (.type "BaseException") == some true && PySem.W.typeIn K (.ref C) == some (.type "type"))
theorem ownX_of {K : PySem.W.Frag} {mg : Str → Option Value} {x : Str} {C : Addr} (g : mg x = some (.ref C)) (e : PySem.W.excIn K C [.type "ValueError", .type "Exception", .type "BaseException", .type "object"] "ValueError.__new__" = true) (h : ownB K C = true) : OwnX K mg x C := by
  unfold ownB at h
  simp only [Bool.and_eq_true, beq_iff_eq] at h
  obtain ⟨h2, h3, h4⟩ := h
  exact ⟨g, e, h2, h3, h4⟩
def excB (K : PySem.W.Frag) (C : Addr) : Bool := PySem.W.findIn K (.ref C) "__getattribute__" == some (some (.builtin "BaseException.__getattribute__")) && (PySem.W.findIn K (.ref C) "__getattr__" == some none && (PySem.W.subIn K (.ref C) (.type "BaseException") == some true && (PySem.W.hasDictIn K C &&
  (PySem.W.findIn K (.ref C) "__class__" == some (some (.builtin "object.__class__")) && (PySem.W.specialIn K (.builtin "object.__class__") "__get__" == some (some (.builtin "getset_descriptor.__get__")) && (PySem.W.takesIn K (.builtin "object.__class__") == some true && PySem.W.mroIn K C (.type "object") == some true))))))
theorem excC_of {K : PySem.W.Frag} {C : Addr} (h : excB K C = true) : ExcC K C := by
  unfold excB at h
  simp only [Bool.and_eq_true, beq_iff_eq] at h
  obtain ⟨h1, h2, h3, h4, h5, h6, h7, h8⟩ := h
  exact ⟨h1, h2, h3, h4, h5, h6, h7, h8⟩
/-- the classes cs, each of none but its own, of H and of ValueError; H of none of them -/
def kinB (K : PySem.W.Frag) (cs : List Addr) (H : Addr) : Bool := decide cs.Nodup && ((excB K H && cs.all fun D => PySem.W.kitOne K (.ref H) (.ref D) == some false && !(H == D)) &&
  (cs.all fun C => excB K C && (PySem.W.kitOne K (.ref C) (.ref H) == some true && (PySem.W.kitOne K (.ref C) (.type "ValueError") == some true && cs.all fun D => PySem.W.kitOne K (.ref C) (.ref D) == some (C == D)))))
structure Kin (K : PySem.W.Frag) (cs : List Addr) (H : Addr) : Prop where
  nd : cs.Nodup
  exc : ∀ C, C ∈ H :: cs → ExcC K C
  one : ∀ C, C ∈ H :: cs → ∀ D ∈ cs, PySem.W.kitOne K (.ref C) (.ref D) = some (C == D)
  top : ∀ C ∈ cs, PySem.W.kitOne K (.ref C) (.ref H) = some true
  val : ∀ C ∈ cs, PySem.W.kitOne K (.ref C) (.type "ValueError") = some true
  ne : ∀ D ∈ cs, (H == D) = false
theorem kin_of {K : PySem.W.Frag} {cs : List Addr} {H : Addr} (h : kinB K cs H = true) : Kin K cs H := by
  unfold kinB at h
  simp only [Bool.and_eq_true, beq_iff_eq, List.all_eq_true, Bool.not_eq_true', decide_eq_true_eq] at h
  obtain ⟨h0, ⟨h1, h2⟩, h3⟩ := h
  refine ⟨h0, fun C hC => ?_, fun C hC D hD => ?_, fun C hC => (h3 C hC).2.1, fun C hC => (h3 C hC).2.2.1, fun D hD => (h2 D hD).2⟩
  · rcases List.mem_cons.mp hC with rfl | hC
    · exact excC_of h1
    · exact excC_of (h3 C hC).1
  · rcases List.mem_cons.mp hC with rfl | hC
    · rw [(h2 D hD).2]
      exact (h2 D hD).1
    · exact (h3 C hC).2.2.2 D hD
end Fx

/-! dicts: d[k] = v at a slot that owns a dict of values; d[k]; sorted(d) -/
namespace Fx
open PySem PySem.Spec PyProof.Rows L2 Evl Lk
theorem owl_fz {K : PySem.W.Frag} {T : Addr → Prop} {H : Hp} : ∀ {ds : List D} {vs : List V} {fp : List Addr}, OwL K T H (ds.map O.f) vs fp → fp = [] ∧ FzL K (hid T H) vs ds
  | [], _, _, h => by cases h; exact ⟨rfl, .nil⟩
  | d :: ds, _, _, h => by
    cases h with
    | cons a b e =>
      cases a with
      | f fz =>
        obtain ⟨rfl, f2⟩ := owl_fz b
        exact ⟨rfl, .cons fz f2⟩
/-- an owned dict of values at a slot -/
theorem own_dic {G : Gx} {T : Addr → Prop} {H : Hp} {σ : L2.St} {env : Env} {F : Nat → List Addr} {k : Nat} {ks : List Key} {ds : List D} (r : RE G T H σ env F) (hk : env[k]? = some (some (.own (.dic ks (ds.map O.f))))) :
    ∃ p vs, σ[k]? = some (some (.ref p)) ∧ H p = some (.dK (ks.zip vs)) ∧ ks.length = vs.length ∧ FzL G.K (hid T H) vs ds ∧
      ∀ ks' vs' ds', ks'.length = vs'.length → FzL G.K (hid T H) vs' ds' → Att G σ T H env F T (upd H p (.dK (ks'.zip vs'))) (env.set k (some (.own (.dic ks' (ds'.map O.f))))) F := by
  obtain ⟨v, h1, h2⟩ := r.slot k _ hk
  have h2 : Ow G.K T H (.dic ks (ds.map O.f)) v (F k) := h2
  generalize hF : F k = fk at h2
  cases h2 with
  | dic a b l c n =>
    rename_i p vs fp
    obtain ⟨rfl, fz0⟩ := owl_fz c
    refine ⟨p, vs, h1, b, l, fz0, fun ks' vs' ds' l' fz => ?_⟩
    have hkl : k < env.length := (List.getElem?_eq_some_iff.mp hk).1
    have hP : OwnP env F p := ⟨k, ⟨_, hk⟩, by rw [hF]; exact List.mem_singleton.mpr rfl⟩
    have ch1 : Chg T H (fun x => x = p) T (upd H p (.dK (ks'.zip vs'))) := Chg.write r.trk rfl
    have ch : Chg T H (OwnP env F) T (upd H p (.dK (ks'.zip vs'))) := Chg.write r.trk hP
    have he : Ex (hid T H) (hid T (upd H p (.dK (ks'.zip vs')))) := ch.hid r.sub
    have ownb : ∀ j, IsOwn (env.set k (some (.own (.dic ks' (ds'.map O.f))))) j → IsOwn env j := fun j ⟨o, h⟩ => by
      rcases set_get h with ⟨e, _⟩ | ⟨_, h⟩
      · rw [e]; exact ⟨_, hk⟩
      · exact ⟨o, h⟩
    have isb : ∀ j, IsS (env.set k (some (.own (.dic ks' (ds'.map O.f))))) j → IsS env j := fun j ⟨o, h⟩ => by
      rcases set_get h with ⟨e, _⟩ | ⟨_, h⟩
      · rw [e]; exact ⟨_, hk⟩
      · exact ⟨o, h⟩
    refine ⟨ch, ⟨ch.tr, fun q hq => ?_, fun j s hj => ?_, fun i j n h1 h2 => r.dis i j n (ownb i h1) (isb j h2), r.st.trans r.t0 ch r.ow, fun x ⟨j, hj, hx⟩ => r.ow x ⟨j, ownb j hj, hx⟩, r.t0, r.pin, by rw [List.length_set]; exact r.len, r.hx.trans he⟩, fun x ⟨j, hj, hx⟩ => .inl ⟨j, ownb j hj, hx⟩, fun j o h => ?_⟩
    · obtain ⟨t1, t2⟩ := r.tab q hq
      exact ⟨by rw [upd_ne (fun e => t2 (by rw [e]; exact a))]; exact t1, t2⟩
    · rcases set_get hj with ⟨e, e1⟩ | ⟨e, hj⟩
      · cases e1
        subst e
        refine ⟨.ref p, h1, ?_⟩
        rw [hF]
        have fin : Ow G.K T (upd H p (.dK (ks'.zip vs'))) (.dic ks' (ds'.map O.f)) (.ref p) [p] := .dic (fp := []) a upd_same l' (owl_fs (fz.ex he)) (by simp)
        exact fin
      · obtain ⟨v', g1, g2⟩ := r.slot j s hj
        refine ⟨v', g1, g2.chg ch1 (fun x hx => by rw [hx]; exact a) fun x hx hxp => ?_⟩
        refine r.dis k j (Ne.symm e) ⟨_, hk⟩ ⟨_, hj⟩ p (by rw [hF]; exact List.mem_singleton.mpr rfl) ?_
        rw [← hxp]
        exact hx
    · rcases set_get h with ⟨_, e⟩ | ⟨_, h⟩
      · cases e
      · exact ⟨h, rfl⟩
/-- in its place, or at the end -/
def putP {α : Type} (kvs : List (Key × α)) (k : Key) (v : α) : List (Key × α) :=
  if (kvs.any fun kv => decide (kv.1 = k)) = true then kvs.map (fun kv => if kv.1 = k then (kv.1, v) else kv) else kvs ++ [(k, v)]
/-- a dict of values, as an owned thing, as a value -/
def dicO (l : List (Key × D)) : O := .dic (l.map (·.1)) (l.map fun p => O.f p.2)
def dicD (l : List (Key × D)) : D := .dic (l.map (·.1)) (l.map (·.2))
theorem dvL_fs : ∀ l : List (Key × D), O.dvL (l.map fun p => O.f p.2) = l.map (·.2)
  | [] => rfl
  | p :: l => by
    show (O.f p.2).dv :: O.dvL (l.map fun p => O.f p.2) = _
    rw [dvL_fs l]
    rfl
theorem dv_dicO (l : List (Key × D)) : (dicO l).dv = dicD l := by
  show D.dic _ (O.dvL _) = _
  rw [dvL_fs]
  rfl
inductive Zp (K : PySem.W.Frag) (H : Hp) : List (Key × V) → List (Key × D) → Prop
  | nil : Zp K H [] []
  | cons {k : Key} {v : V} {d : D} {kvs : List (Key × V)} {l : List (Key × D)} : Fz K H v d → Zp K H kvs l → Zp K H ((k, v) :: kvs) ((k, d) :: l)
section
variable {K : PySem.W.Frag} {H : Hp}
theorem zp_of : ∀ {l : List (Key × D)} {vs : List V}, FzL K H vs (l.map (·.2)) → Zp K H ((l.map (·.1)).zip vs) l
  | [], _, h => by cases h; exact .nil
  | (k, d) :: l, _, h => by
    cases h with
    | cons a b => exact .cons a (zp_of b)
theorem Zp.fst {kvs : List (Key × V)} {l : List (Key × D)} (h : Zp K H kvs l) : kvs.map (·.1) = l.map (·.1) := by
  induction h with
  | nil => rfl
  | cons a b ih => rw [List.map_cons, List.map_cons, ih]
theorem Zp.snd {kvs : List (Key × V)} {l : List (Key × D)} (h : Zp K H kvs l) : FzL K H (kvs.map (·.2)) (l.map (·.2)) := by
  induction h with
  | nil => exact .nil
  | cons a b ih => exact .cons a ih
theorem Zp.any {kvs : List (Key × V)} {l : List (Key × D)} (h : Zp K H kvs l) (k : Key) : (kvs.any fun kv => decide (kv.1 = k)) = (l.any fun kv => decide (kv.1 = k)) := by
  induction h with
  | nil => rfl
  | cons a b ih => rw [List.any_cons, List.any_cons, ih]
theorem Zp.append {kvs kws : List (Key × V)} {l m : List (Key × D)} (h : Zp K H kvs l) (g : Zp K H kws m) : Zp K H (kvs ++ kws) (l ++ m) := by
  induction h with
  | nil => exact g
  | cons a b ih => exact .cons a ih
theorem Zp.put {kvs : List (Key × V)} {l : List (Key × D)} {k : Key} {v : V} {d : D} (h : Zp K H kvs l) (f : Fz K H v d) : Zp K H (putP kvs k v) (putP l k d) := by
  unfold putP
  rw [h.any k]
  by_cases c : (l.any fun kv => decide (kv.1 = k)) = true
  · rw [if_pos c, if_pos c]
    clear c
    induction h with
    | nil => exact .nil
    | cons a b ih =>
      rename_i k0 v0 d0 kvs l
      rw [List.map_cons, List.map_cons]
      by_cases e : k0 = k
      · rw [if_pos e, if_pos e]
        exact .cons f ih
      · rw [if_neg e, if_neg e]
        exact .cons a ih
  · rw [if_neg c, if_neg c]
    exact h.append (.cons f .nil)
theorem zip_self {α : Type} : ∀ l : List (Key × α), (l.map (·.1)).zip (l.map (·.2)) = l
  | [] => rfl
  | p :: l => by rw [List.map_cons, List.map_cons, List.zip_cons_cons, zip_self l]
end
theorem own_dicO {G : Gx} {T : Addr → Prop} {H : Hp} {σ : L2.St} {env : Env} {F : Nat → List Addr} {k : Nat} {l : List (Key × D)} (r : RE G T H σ env F) (hk : env[k]? = some (some (.own (dicO l)))) :
    ∃ p kvs, σ[k]? = some (some (.ref p)) ∧ H p = some (.dK kvs) ∧ Zp G.K (hid T H) kvs l ∧
      ∀ kvs' l', Zp G.K (hid T H) kvs' l' → Att G σ T H env F T (upd H p (.dK kvs')) (env.set k (some (.own (dicO l')))) F := by
  have e1 : dicO l = .dic (l.map (·.1)) ((l.map (·.2)).map O.f) := by unfold dicO; rw [List.map_map]; rfl
  rw [e1] at hk
  obtain ⟨p, vs, h1, h2, h3, h4, h5⟩ := own_dic r hk
  refine ⟨p, _, h1, h2, zp_of h4, fun kvs' l' z => ?_⟩
  have e2 : dicO l' = .dic (l'.map (·.1)) ((l'.map (·.2)).map O.f) := by unfold dicO; rw [List.map_map]; rfl
  have q := h5 (l'.map (·.1)) (kvs'.map (·.2)) (l'.map (·.2)) (by rw [← z.fst, List.length_map, List.length_map]) z.snd
  rw [← z.fst, zip_self, z.fst, ← e2] at q
  exact q
theorem Zp.length {K : PySem.W.Frag} {H : Hp} {kvs : List (Key × V)} {l : List (Key × D)} (h : Zp K H kvs l) : kvs.length = l.length := by
  have := congrArg List.length h.fst
  rw [List.length_map, List.length_map] at this
  exact this
/-- d[k] = v -/
def wDPut (i : Nat) (wv wk : WE) : WS := fun D env => wv env fun r e => ∃ d, r = .f d ∧ (∃ l0, e[i]? = some (some (.own (dicO l0)))) ∧ wk e fun r2 e2 => ∃ k l, r2 = .f (dK k) ∧ e2[i]? = some (some (.own (dicO l))) ∧ l.length ≤ 100000 ∧ D.nx (e2.set i (some (.own (dicO (putP l k d)))))
section
variable {X : Cx} {G : Gx} {o i value : Expr} {wv wk : WE} {pos pos' : Pos} {j : Nat}
theorem gs_dput (hu : X.A.units + 1 < cLine) (ho : PE X o (tVar j)) (hi : GE X G i wk) (hv : GE X G value wv) (hs : swapsWith value (some (.Subscript o i pos')) pos.line X.env = pure false := by rfl) :
    GS X G (.Assign [.Subscript o i pos'] value pos) (wDPut j wv wk) := by
  refine ⟨ps_imp (ps_dput hu ho hi.pe hv.pe hs) fun D σ H ⟨T, env, F, r, q⟩ => ⟨T, env, F, r, hv.mono _ _ _ (fun s e ⟨d, hd, ⟨l0, h0⟩, q⟩ v T1 H1 F1 fr1 a1 z1 => ?_) q⟩, fun D D' env l q => hv.mono _ _ _ (fun s e ⟨d, hd, h0, q⟩ => ⟨d, hd, h0, hi.mono _ _ _ (fun s2 e2 ⟨k, ll, h1, h2, h3, q⟩ => ⟨k, ll, h1, h2, h3, l.nx _ q⟩) q⟩) q⟩
  subst hd
  obtain ⟨p0, kvs0, s1, hp0, _, _⟩ := own_dicO a1.re h0
  refine ⟨_, s1, T1, e, F1, a1.re, hi.mono _ _ _ (fun s2 e2 ⟨k, l, h1, h2, h3, q⟩ y T2 H2 F2 fr2 a2 z2 => ?_) q⟩
  subst h1
  have ey := fz_dK z2.rel.1
  subst ey
  obtain ⟨p, kvs, s2, hp, zp, upd_⟩ := own_dicO a2.re h2
  rw [s1] at s2
  cases s2
  have a3 := upd_ _ _ (zp.put (k := k) (Fz.att a1.re a2 z1.rel.1))
  refine ⟨p0, _, rfl, .k hp (by rw [zp.length]; exact Nat.lt_of_le_of_lt h3 (by rw [sizeLine_eq]; decide)), ?_⟩
  exact q σ T2 _ F2 a3.re ((a1.chg.hid r.sub).trans ((a2.chg.hid a1.re.sub).trans (a3.chg.hid a2.re.sub)))
end
end Fx

/-! dict values: d[k], sorted(d) -/
namespace Fx
open PySem PySem.Spec PyProof.Rows L2 Evl Lk
def getP {α : Type} (l : List (Key × α)) (k : Key) : Option α := (l.find? fun kv => decide (kv.1 = k)).map (·.2)
section
variable {K : PySem.W.Frag} {H : Hp}
theorem Zp.get {kvs : List (Key × V)} {l : List (Key × D)} (h : Zp K H kvs l) {k : Key} {d : D} (e : getP l k = some d) : ∃ v, valV kvs k = some v ∧ Fz K H v d := by
  induction h with
  | nil => cases e
  | cons a b ih =>
    rename_i k0 v0 d0 kvs l
    by_cases c : k0 = k
    · have e1 : getP ((k0, d0) :: l) k = some d0 := by simp [getP, List.find?_cons, c]
      rw [e1] at e
      cases e
      exact ⟨v0, valV_pos c, a⟩
    · have e1 : getP ((k0, d0) :: l) k = getP l k := by simp [getP, List.find?_cons, c]
      rw [e1] at e
      obtain ⟨v, h1, h2⟩ := ih e
      exact ⟨v, (valV_neg c).trans h1, h2⟩
theorem fz_dicD {l : List (Key × D)} {v : V} (h : Fz K H v (dicD l)) : ∃ a kvs, v = .ref a ∧ Rd H a (.dK kvs) ∧ Zp K H kvs l := by
  have h : Fz K H v (.dic (l.map (·.1)) (l.map (·.2))) := h
  cases h with
  | dic r hl f => exact ⟨_, _, rfl, r, zp_of f⟩
end
theorem rd_un {T : Addr → Prop} {H : Hp} {a : Addr} {o : HO} (l : Rd (hid T H) a o) : Rd H a o := rd_hid l
def wDIx (w1 w2 : WE) : WE := fun env Q => w1 env fun r e => ∃ l, r = .f (dicD l) ∧ w2 e fun r2 e2 => ∃ k d, r2 = .f (dK k) ∧ getP l k = some d ∧ Q (.f d) e2
section
variable {X : Cx} {G : Gx} {o i e : Expr} {w w1 w2 : WE} {pos p : Pos}
theorem ge_dix (hu : X.A.units + 1 < cLine) (ho : GE X G o w1) (hi : GE X G i w2) (hs : NoSl i) : GE X G (.Subscript o i pos) (wDIx w1 w2) := by
  refine ⟨pe_imp (pe_dget hu ho.pe hi.pe hs) fun σ H Q ⟨T, env, F, r, q⟩ => ⟨T, env, F, r, ho.mono _ _ _ (fun s e ⟨l, hs, q⟩ x T1 H1 F1 f1 a1 z1 => ?_) q⟩, fun env Q Q' i q => ho.mono _ _ _ (fun s e ⟨l, hs, q⟩ => ⟨l, hs, hi.mono _ _ _ (fun s2 e2 ⟨k, d, h1, h2, q⟩ => ⟨k, d, h1, h2, i _ _ q⟩) q⟩) q⟩
  subst hs
  refine ⟨T1, e, F1, a1.re, hi.mono _ _ _ (fun s2 e2 ⟨k, d, h1, h2, q⟩ y T2 H2 F2 f2 a2 z2 => ?_) q⟩
  subst h1
  have ey := fz_dK z2.rel.1
  subst ey
  obtain ⟨a, kvs, rfl, rd, zp⟩ := fz_dicD (Fz.att a1.re a2 z1.rel.1)
  obtain ⟨v, g1, g2⟩ := zp.get h2
  exact ⟨a, v, rfl, .inl ⟨_, k, rd_un rd, rfl, g1.symm⟩, q _ T2 H2 F2 [] (a1.trans r.trk a2) (res_f g2)⟩
/-- sorted(d), its keys texts: an owned list -/
def wSortedD (w : WE) : WE := fun env Q => w env fun r e => ∃ (l : List (Key × D)) (xs : List Str), r = .f (dicD l) ∧ l.map (·.1) = xs.map Sum.inr ∧ xs.length < 64 ∧ ∀ ys : List Str, ys.Perm xs → sortedS ys = true → Q (.own (.lst (ys.map D.str))) e
theorem ge_sortedD (hc : X.calm = true) (hg : Gl X "sorted") (hm : X.mg "sorted" = none) (he : GE X G e w) (hst : starEach [e] X.env = (false, eval e X.env) :: starEach [] X.env := by rfl) : GE X G (.Call (.Name "sorted" p) [e] [] pos) (wSortedD w) := by
  refine ⟨pe_imp (pe_callB (call_sortedD hc) hg hm rfl (pa_cons he.pe pa_nil hst) (by decide) (by decide) hst rfl) fun σ H Q ⟨T, env, F, r, q⟩ => ?_, fun env Q Q' i q => he.mono _ _ _ (fun s e ⟨l, xs, h1, h2, h3, q⟩ => ⟨l, xs, h1, h2, h3, fun ys a b => i _ _ (q ys a b)⟩) q⟩
  refine ⟨T, env, F, r, he.mono _ _ _ (fun s e ⟨l, xs, h1, h2, h3, q⟩ x T1 H1 F1 f1 a1 z1 => ?_) q⟩
  subst h1
  obtain ⟨a, kvs, rfl, rd, zp⟩ := fz_dicD z1.rel.1
  refine ⟨a, kvs, xs, rfl, rd_un rd, zp.fst.trans h2, h3, fun ys p pm so np => ?_⟩
  exact q ys pm so _ _ _ F1 [p] (a1.trans r.trk (att_new a1.re np)) (res_trans r.trk a1 (own_new a1.re np (.lst (.inr rfl) upd_same (fzl_strs ys))))
end
end Fx

/-! {} as an owned dict; a starred element of a display -/
namespace Fx
open PySem PySem.Spec PyProof.Rows L2 Evl Lk
section
variable {X : Cx} {G : Gx}
def wDNewO : WE := fun env Q => Q (.own (dicO [])) env
theorem ge_dnewO {pos : Pos} : GE X G (.Dict [] [] pos) wDNewO := by
  refine ⟨pe_imp pe_dnewK fun σ H Q ⟨T, env, F, r, q⟩ p np => ?_, fun env Q Q' i q => i _ _ q⟩
  have fin : Ow G.K (fun a => T a ∨ a = p) (upd H p (.dK [])) (dicO []) (.ref p) [p] := .dic (ks := []) (vs := []) (os := []) (fp := []) (.inr rfl) upd_same rfl .nil (by simp)
  exact q (.ref p) _ _ F [p] (att_new r np) (own_new r np fin)
theorem argR_fz {σ : L2.St} {T0 : Addr → Prop} {H0 : Hp} {env0 : Env} {F0 : Nat → List Addr} {T : Addr → Prop} {H : Hp} {env : Env} {F : Nat → List Addr} {vs : List V} {ds : List D} (f : FzL G.K (hid T H) vs ds) : ArgR G σ T0 H0 env0 F0 T H env F (ds.map agD) vs (fun _ => []) := by
  have hv : ∀ (j : Nat) (a : Ag), (ds.map agD)[j]? = some a → ∃ d, ds[j]? = some d ∧ a = .v (.f d) := fun j a h => by
    rw [List.getElem?_map] at h
    cases e : ds[j]? with
    | none => rw [e] at h; cases h
    | some d => rw [e] at h; cases h; exact ⟨d, rfl, rfl⟩
  refine ⟨by rw [List.length_map, f.length], fun j s h => ?_, fun j i b h => ?_, fun j o h => ?_, fun j o h => ?_⟩
  · obtain ⟨d, h1, h2⟩ := hv j _ h
    cases h2
    have hj : j < vs.length := by rw [f.length]; exact (List.getElem?_eq_some_iff.mp h1).1
    exact ⟨vs[j], List.getElem?_eq_getElem hj, ⟨f.get (List.getElem?_eq_getElem hj) h1, rfl⟩, nofun⟩
  · obtain ⟨d, h1, h2⟩ := hv j _ h
    cases h2
  · obtain ⟨d, h1, h2⟩ := hv j _ h
    cases h2
  · obtain ⟨d, h1, h2⟩ := hv j _ h
    cases h2
def adStar (w : WE) (wr : WAD) : WAD := fun env Q => w env fun r e => ∃ ds0, (r = .f (.tup ds0) ∨ r = .f (.lst ds0)) ∧ wr e fun ds e2 => Q (ds0 ++ ds) e2
variable {e : Expr} {es : List Expr} {w : WE} {wr : WAD} {p : Pos}
theorem mono_adStar (m : MonoE w) (n : MonoAD wr) : MonoAD (adStar w wr) := fun env Q Q' i q => m _ _ _ (fun r e ⟨d, hd, q⟩ => ⟨d, hd, n _ _ _ (fun ds e q => i _ _ q) q⟩) q
theorem gd_star (he : GE X G e w) (hr : GD X G es wr) (hK : X.K = G.K := by rfl) (hs : starEach (.Starred e p :: es) X.env = (true, eval e X.env) :: starEach es X.env := by rfl) : GD X G (.Starred e p :: es) (adStar w wr) := by
  refine ⟨⟨pa_imp (StX.pa_star he.pe hr.ga.pa hs) fun σ H Q ⟨T, env, F, r, q⟩ => ⟨T, env, F, r, he.mono _ _ _ (fun s e1 ⟨ds0, hd, q⟩ v T1 H1 F1 f1 a1 z1 => ?_) q⟩, mono_waD (mono_adStar he.mono hr.mono)⟩, mono_adStar he.mono hr.mono⟩
  have hx : ∃ p xs, v = V.ref p ∧ (SqT X.K H1 p xs ∨ SqL X.K H1 p xs) ∧ FzL G.K (hid T1 H1) xs ds0 := by
    rcases hd with rfl | rfl
    · have z := z1.rel.1
      have z : Fz G.K (hid T1 H1) v (.tup ds0) := z
      cases z with
      | tup l f => exact ⟨_, _, rfl, .inl (by rw [hK]; exact ex_t hid_ex l), f⟩
    · have z : Fz G.K (hid T1 H1) v (.lst ds0) := z1.rel.1
      cases z with
      | lst l f => exact ⟨_, _, rfl, .inr (by rw [hK]; exact ex_l hid_ex l), f⟩
  obtain ⟨p, xs, h1, h2, f⟩ := hx
  refine ⟨p, xs, h1, h2, T1, e1, F1, a1.re, hr.mono _ _ _ (fun ds e2 q vs T2 H2 F2 Fa a2 z2 => ?_) q⟩
  have f2 := args_fz z2 (argsD_map ds)
  exact q (xs ++ vs) T2 H2 F2 (fun _ => []) (a1.trans r.trk a2) (argR_fz ((f.ex (a2.chg.hid a1.re.sub)).append f2))
end
end Fx

/-! walks of dicts -/
namespace Fx
open PySem PySem.Spec PyProof.Rows L2 Evl Lk
theorem u1 {k : Nat} {A : Around} (hr : Room k A) : A.units + 1 < cLine := by have := hr.un; omega
section
variable {env : Env} {Q : Sl → Env → Prop} {w w1 w2 wv wk : WE} {wr : WAD} {D0 : WEnds} {i : Nat}
theorem x_dnewO (h : Q (.own (dicO [])) env) : wDNewO env Q := h
theorem x_dput (h : wv env fun r e => ∃ d, r = .f d ∧ (∃ l0, e[i]? = some (some (.own (dicO l0)))) ∧ wk e fun r2 e2 => ∃ k l, r2 = .f (dK k) ∧ e2[i]? = some (some (.own (dicO l))) ∧ l.length ≤ 100000 ∧ D0.nx (e2.set i (some (.own (dicO (putP l k d)))))) : wDPut i wv wk D0 env := h
theorem x_dput1 {l0 : List (Key × D)} {p : Prop} (h0 : env[i]? = some (some (.own (dicO l0)))) (h : p) : (∃ l, env[i]? = some (some (.own (dicO l)))) ∧ p := ⟨⟨_, h0⟩, h⟩
theorem x_dput2 {q : Env → Prop} {x : Str} {d : D} {l0 : List (Key × D)} (h0 : env[i]? = some (some (.own (dicO l0)))) (hl : l0.length ≤ 100000) (h : q (env.set i (some (.own (dicO (putP l0 (.inr x) d)))))) :
    ∃ k l, Sl.f (.str x) = .f (dK k) ∧ env[i]? = some (some (.own (dicO l))) ∧ l.length ≤ 100000 ∧ q (env.set i (some (.own (dicO (putP l k d))))) := ⟨.inr x, l0, rfl, h0, hl, h⟩
theorem x_dix (h : w1 env fun r e => ∃ l, r = .f (dicD l) ∧ w2 e fun r2 e2 => ∃ k d, r2 = .f (dK k) ∧ getP l k = some d ∧ Q (.f d) e2) : wDIx w1 w2 env Q := h
theorem x_dixL {l0 : List (Key × D)} {p : List (Key × D) → Prop} (h : p l0) : ∃ l, Sl.f (dicD l0) = .f (dicD l) ∧ p l := ⟨l0, rfl, h⟩
theorem x_dixK {x : Str} {l : List (Key × D)} {d : D} (hd : getP l (.inr x) = some d) (h : Q (.f d) env) : ∃ k d', Sl.f (.str x) = .f (dK k) ∧ getP l k = some d' ∧ Q (.f d') env := ⟨.inr x, d, rfl, hd, h⟩
theorem x_sortedD (h : w env fun r e => ∃ (l : List (Key × D)) (xs : List Str), r = .f (dicD l) ∧ l.map (·.1) = xs.map Sum.inr ∧ xs.length < 64 ∧ ∀ ys : List Str, ys.Perm xs → sortedS ys = true → Q (.own (.lst (ys.map D.str))) e) : wSortedD w env Q := h
theorem x_star {QD : List D → Env → Prop} (h : w env fun r e => ∃ ds0, (r = .f (.tup ds0) ∨ r = .f (.lst ds0)) ∧ wr e fun ds e2 => QD (ds0 ++ ds) e2) : adStar w wr env QD := h
theorem x_starT {ds0 : List D} {p : List D → Prop} (h : p ds0) : ∃ ds, (Sl.f (.tup ds0) = .f (.tup ds) ∨ Sl.f (.tup ds0) = .f (.lst ds)) ∧ p ds := ⟨ds0, .inl rfl, h⟩
theorem fds_fs : ∀ l : List (Key × D), O.fds (l.map fun p => O.f p.2) = some (l.map (·.2))
  | [] => rfl
  | p :: l => by
    have h := fds_fs l
    rw [List.map_cons, List.map_cons]
    unfold O.fds
    rw [h]
    rfl
theorem cd_dicO (l : List (Key × D)) : (dicO l).cd = some (dicD l) := by
  show (O.fds _).map _ = _
  rw [fds_fs]
  rfl
theorem x_frzD {l : List (Key × D)} (h : Q (.f (dicD l)) env) : ∃ o d, Sl.own (dicO l) = .own o ∧ o.cd = some d ∧ Q (.f d) env := ⟨_, _, rfl, cd_dicO l, h⟩
theorem x_moveD {l : List (Key × D)} (h0 : env[i]? = some (some (.own (dicO l)))) (h : Q (.f (dicD l)) (env.set i none)) : ∃ o d, env[i]? = some (some (.own o)) ∧ o.cd = some d ∧ Q (.f d) (env.set i none) := ⟨_, _, h0, cd_dicO l, h⟩
end
end Fx

/-! defs that are called where no guard of repr stands -/
namespace L2
open PySem PySem.Spec PyProof.Rows
/-- as FnOk, where no guard stands -/
structure FnG (P : Program) (w : World) (K : PySem.W.Frag) (mg : Str → Option Value) (base : Heap) (k : Nat) (f : Addr) (fd : FuncData) (ps : List Str) (sp : Sp) : Prop where
  len : ∀ vs H Q E, sp vs H Q E → vs.length = ps.length
  run : ∀ (A : Around) (outer : List Env) (s : Shared) (H : Hp) (args : Args) (us : List Value) (vs : List V) (Q : VK) (E : XK), A.guards = some [] → Room k A → Env0 P w K mg base A outer s H → BindsTo s fd args (ps.zip us) → Vals vs us → sp vs H Q E →
    codeAny (model P w) A (.call (.ref f) args) (CR CX0 outer P w H s Q E) s
section
variable {P : Program} {w : World} {K : PySem.W.Frag} {mg : Str → Option Value} {base : Heap} {N ps : List Str} {qual : Str} {scope : Scope} {f : Addr} {A : Around} {outer : List Env} {s s1 : Shared} {H : Hp} {E : XK} {us : List Value} {vs : List V}
theorem fn_ofG {k : Nat} {name : Str} {params : Arguments} {body : List Stmt} {dV kV doc pm cdv ct oc : Value} {an od : Option Addr} {osl : Array (Option Value)} {sp : Sp} (lk : K.lookup f = some ⟨oc, od, .func (PySem.W.fnOf name qual params body scope dV kV doc pm an cdv ct), osl⟩) (hcd : PySem.W.codeIn K cdv qual = true) (S : FnScope N ps scope)
    (len : ∀ vs H Q E, sp vs H Q E → vs.length = ps.length)
    (hbody : ∀ (A : Around) (outer : List Env) (s : Shared) (H : Hp) (vs : List V) (Q : VK) (E : XK), A.guards = some [] → Room k (A.deeper (envOfC qual scope s.heap.objs.size f cdv)) → sp vs H Q E →
      ∃ t, PSs (cxOf CX0 P w K mg base N qual scope f cdv A outer s H E) body t ∧ t { nx := fun _ H' => Q .non H', rt := Q } (start N vs) H) :
    FnG P w K mg base (k + 1) f (PySem.W.fnOf name qual params body scope dV kV doc pm an cdv ct) ps sp := by
  refine ⟨len, fun A outer s H args us vs Q E hg hr e0 hb r hsp => ?_⟩
  refine StX.run_bnd lk hcd S hr e0 (G := fun xs H2 => xs = vs ∧ H2 = H) (fun A' Ex Q' h => hb _ _ _ _ (h s H vs us e0 .refl rfl (fun _ _ z => z) r (len _ _ _ _ hsp) ⟨rfl, rfl⟩)) fun s2 H2 xs ⟨ex, eH⟩ hr' => ?_
  subst ex eH
  exact hbody A outer s2 H2 xs Q E hg hr' hsp
end
section
variable {X : Cx} {x : Str} {p pos : Pos} {k j : Nat} {sp : Sp} {e : Expr} {es : List Expr} {ta : TA}
theorem pe_callG {f : Addr} {fd : FuncData} {ps : List Str} (F : FnG X.prog X.w X.K X.mg X.base k f fd ps sp) (hgd : X.A.guards = some []) (hr : Room j X.A) (hk : k ≤ j) (hg : Gl X x) (hm : X.mg x = some (.ref f)) (kp : PySem.W.keepIn X.K (.ref f) = true) (b : Binds X.K fd ps []) (ha : PA X (e :: es) ta)
    (hdb : (x == ("__debug__" : Str)) = false := by decide) (he : starEach (e :: es) X.env = (false, eval e X.env) :: starEach es X.env := by rfl) (hpl : (backTo pos (starEach es X.env)).any (·.1) = false := by rfl) :
    PE X (.Call (.Name x p) (e :: es) [] pos) (fun σ H Q => ta σ H fun vs H1 => sp vs H1 Q fun _ _ _ => False) := by
  refine ⟨fun pins s σ H Q I h => ?_⟩
  refine wpAny_Call_Name_kw (ld_glob I hg hm ?_ hdb)
  refine PySem.W.callWith_K (h₀ := X.base) I.ok.mod.kin kp (thn (ha.run pos pins s σ H _ I h) fun us s1 ⟨vs, H1, I1, r1, q1⟩ => ⟨I1.kIn, ?_⟩) he hpl
  have lv := F.len _ _ _ _ q1
  refine wpAny_call (codeAny_mono (F.run X.A X.stack s1 H1 ⟨us, []⟩ us vs Q _ hgd (hr.mono hk) I1.env0 (by have := b s1 us I1.kIn (by rw [List.append_nil, ← r1.length]; exact lv); rw [List.append_nil] at this; exact this) r1 q1) fun r s' hq => ?_)
  cases r with
  | error e => exact False.elim hq
  | ok fl =>
    cases fl with
    | ret u => exact I1.after hq
    | next => exact False.elim hq
    | brk => exact False.elim hq
    | cont => exact False.elim hq
end
end L2
namespace Fx
open PySem PySem.Spec PyProof.Rows L2 Evl Lk
/-! ### where no guard stands -/
structure CalG (P : Program) (w : World) (K : PySem.W.Frag) (mg : Str → Option Value) (base : Heap) (k : Nat) (x : Str) (sp : Sp) : Prop where
  ex : ∃ (f : Addr) (fd : FuncData) (ps : List Str), FnG P w K mg base k f fd ps sp ∧ mg x = some (.ref f) ∧ PySem.W.keepIn K (.ref f) = true ∧ Binds K fd ps []
section
variable {P : Program} {w : World} {K : PySem.W.Frag} {mg : Str → Option Value} {base : Heap} {x q : Str} {st : Stmt} {N ps : List Str} {k : Nat} {tabs : List Addr}
theorem ofG {sp : Sp} (A : At K mg x st ps) (h : ∀ f fd, Fun K x x st f fd → FnG P w K mg base k f fd ps sp) : CalG P w K mg base k x sp := by
  obtain ⟨f, fd, F1, g, b⟩ := A.ex
  exact ⟨⟨f, fd, ps, h f fd F1, g, F1.kp, b⟩⟩
theorem fx_fnG {W : WD} {f : Addr} {fd : FuncData} (fl : List Bool) (F : Fun K x q st f fd) (S : FnScope N ps (defScope st)) (hlen : ∀ as Q, W as Q → as.length = ps.length)
    (hbody : ∀ (cdv : Value) (A : Around) (outer : List PySem.Env) (s : Shared) (H : Hp) (E : XK) (T : Addr → Prop) (P0 : Addr → Prop) (σ0 : L2.St), fd.code = cdv → A.guards = some [] → Room k (A.deeper (envOfC q (defScope st) s.heap.objs.size f cdv)) →
      ∃ ws, GSs (cxOf CX0 P w K mg base N q (defScope st) f cdv A outer s H E).nox ⟨K, tabs, T, H, P0, σ0, fun i => fl.getD i false, fun _ _ => False, fun _ => none⟩ (defBody st) ws ∧
        ∀ as Q, W as Q → ws { nx := fun env => OutOk fl as env ∧ Q (.f .non) (outA fl as env), rt := fun r env => OutOk fl as env ∧ Q r (outA fl as env) } (startE N as)) : FnG P w K mg base (k + 1) f fd ps (spW K tabs W) := by
  have lenV : ∀ vs H Q E, spW K tabs W vs H Q E → vs.length = ps.length := fun vs H Q E ⟨T, as, F, r, h⟩ => by
    rw [spW_len r]
    exact hlen as _ h
  suffices main : ∀ (cdv : Value) (A : Around) (outer : List PySem.Env) (s : Shared) (H : Hp) (vs : List V) (Q : VK) (E : XK), fd.code = cdv → A.guards = some [] → Room k (A.deeper (envOfC q (defScope st) s.heap.objs.size f cdv)) → spW K tabs W vs H Q E →
      ∃ t, PSs (cxOf CX0 P w K mg base N q (defScope st) f cdv A outer s H E).nox (defBody st) t ∧ t { nx := fun _ H' => Q .non H', rt := Q } (L2.start N vs) H by
    obtain ⟨oc, od, kV, doc, pm, an, cdv, ct, osl, rfl, lk, hcd⟩ := F.ex
    exact fn_ofG lk hcd S lenV fun A outer s H vs Q E hgd hr hsp => let ⟨t, h, q⟩ := main cdv A outer s H vs Q E rfl hgd hr hsp; ⟨t, h.nox, q⟩
  intro cdv A outer s H vs Q E hcd hgd hr ⟨T, as, F, r, hW⟩
  obtain ⟨ws, hs, hq⟩ := hbody cdv A outer s H E T (OwnP (as.map some) F) (L2.start N vs) hcd hgd hr
  refine ⟨_, hs.pss, T, startE N as, F, in_re r, ?_⟩
  let Qs : Sl → List Sl → Prop := fun r as' => ∀ v T' H' F' fr, RE (gA K tabs T H as F vs) T' H' (vs.map some) (as'.map some) F' → (∀ j o, as'[j]? = some (.vw o) → as[j]? = some (.vw o) ∧ F' j = F j) → ResS (gA K tabs T H as F vs) T' H' (as'.map some) F' r v fr → Q v H'
  refine hs.mono { nx := fun env => OutOk fl as env ∧ Qs (.f .non) (outA fl as env), rt := fun r env => OutOk fl as env ∧ Qs r (outA fl as env) } _ _ ⟨fun env ⟨oo, q⟩ σ' T' H' F' r' _ => ?_, fun s1 env ⟨oo, q⟩ v σ' T' H' F' fr r' z => ?_, fun _ h => h.elim, fun _ h => h.elim⟩ (hq as _ hW)
  · obtain ⟨F2, g1, g2, g3⟩ := out_re r oo r'
    exact q .non T' H' F2 [] g1 g2 (g3 (.f .non) .non [] ⟨⟨.non, rfl⟩, nofun, nofun, nofun⟩)
  · obtain ⟨F2, g1, g2, g3⟩ := out_re r oo r'
    exact q v T' H' F2 fr g1 g2 (g3 s1 v fr z)
theorem fx_fnFG {W : WFn} {f : Addr} {fd : FuncData} (F : Fun K x x st f fd) (S : FnScope N ps (defScope st)) (hlen : ∀ ds Q, W ds Q → ds.length = ps.length)
    (hbody : ∀ (cdv : Value) (A : Around) (outer : List PySem.Env) (s : Shared) (H : Hp) (E : XK) (T : Addr → Prop) (P0 : Addr → Prop) (σ0 : L2.St), fd.code = cdv → A.guards = some [] → Room k (A.deeper (envOfC x (defScope st) s.heap.objs.size f cdv)) →
      ∃ ws, GSs (cxOf CX0 P w K mg base N x (defScope st) f cdv A outer s H E).nox ⟨K, tabs, T, H, P0, σ0, fun i => (List.replicate ps.length false).getD i false, fun _ _ => False, fun _ => none⟩ (defBody st) ws ∧
        ∀ ds Q, W ds Q → ws ⟨fun env => ps.length ≤ env.length ∧ Q (.f .non), fun r env => ps.length ≤ env.length ∧ Q r, fun _ => False, fun _ => False⟩ (startE N (ds.map Sl.f))) : FnG P w K mg base (k + 1) f fd ps (spW K tabs (liftF W)) := by
  refine fx_fnG (List.replicate ps.length false) F S (fun as Q ⟨ds, h, q⟩ => by rw [h, List.length_map]; exact hlen _ _ q) fun cdv A outer s H E T P0 σ0 hcd hgd hr => ?_
  obtain ⟨ws, h1, h2⟩ := hbody cdv A outer s H E T P0 σ0 hcd hgd hr
  refine ⟨ws, h1, fun as Q ⟨ds, h, q⟩ => ?_⟩
  subst h
  have hl := hlen _ _ q
  refine h1.mono _ _ _ ?_ (h2 ds _ q)
  refine ⟨fun env ⟨l, q⟩ => ?_, fun r env ⟨l, q⟩ => ?_, fun _ h => h.elim, fun _ h => h.elim⟩
  · obtain ⟨a, b⟩ := outOk_f ds env (by rw [hl]; exact l)
    rw [hl] at a b
    exact ⟨a, by rw [b]; exact q⟩
  · obtain ⟨a, b⟩ := outOk_f ds env (by rw [hl]; exact l)
    rw [hl] at a b
    exact ⟨a, by rw [b]; exact q⟩
theorem fx_fnUG {W : WUn} {f : Addr} {fd : FuncData} {p : Str} (F : Fun K x x st f fd) (S : FnScope N (p :: ps) (defScope st)) (hlen : ∀ o ds Q, W o ds Q → ds.length = ps.length)
    (hbody : ∀ (cdv : Value) (A : Around) (outer : List PySem.Env) (s : Shared) (H : Hp) (E : XK) (T : Addr → Prop) (P0 : Addr → Prop) (σ0 : L2.St), fd.code = cdv → A.guards = some [] → Room k (A.deeper (envOfC x (defScope st) s.heap.objs.size f cdv)) →
      ∃ ws, GSs (cxOf CX0 P w K mg base N x (defScope st) f cdv A outer s H E).nox ⟨K, tabs, T, H, P0, σ0, fun i => (true :: List.replicate ps.length false).getD i false, fun _ _ => False, fun _ => none⟩ (defBody st) ws ∧
        ∀ o ds Q, W o ds Q → ws ⟨fun env => (p :: ps).length ≤ env.length ∧ ∃ o', env[0]? = some (some (.own o')) ∧ Q (.f .non) o', fun r env => (p :: ps).length ≤ env.length ∧ ∃ o', env[0]? = some (some (.own o')) ∧ Q r o', fun _ => False, fun _ => False⟩ (startE N (.own o :: ds.map Sl.f))) : FnG P w K mg base (k + 1) f fd (p :: ps) (spW K tabs (liftU W)) := by
  refine fx_fnG (true :: List.replicate ps.length false) F S (fun as Q ⟨o, ds, h, q⟩ => by rw [h, List.length_cons, List.length_map, hlen _ _ _ q]; rfl) fun cdv A outer s H E T P0 σ0 hcd hgd hr => ?_
  obtain ⟨ws, h1, h2⟩ := hbody cdv A outer s H E T P0 σ0 hcd hgd hr
  refine ⟨ws, h1, fun as Q ⟨o, ds, h, q⟩ => ?_⟩
  subst h
  have hl := hlen _ _ _ q
  have fin : ∀ (r : Sl) (env : Env), (p :: ps).length ≤ env.length → ∀ o', env[0]? = some (some (.own o')) → Q r (.own o' :: ds.map Sl.f) → OutOk (true :: List.replicate ps.length false) (.own o :: ds.map Sl.f) env ∧ Q r (outA (true :: List.replicate ps.length false) (.own o :: ds.map Sl.f) env) := by
    intro r env l o' he q
    cases env with
    | nil => exact absurd l (by simp)
    | cons e env =>
      obtain rfl : e = some (.own o') := by simpa using he
      obtain ⟨a, b⟩ := outOk_f ds env (by rw [hl]; simpa using l)
      rw [hl] at a b
      refine ⟨⟨by rw [if_pos rfl]; exact ⟨o', rfl⟩, a⟩, ?_⟩
      show Q r ((if true = true then Sl.own o' else _) :: outA (List.replicate ps.length false) (ds.map Sl.f) env)
      rw [b, if_pos rfl]
      exact q
  refine h1.mono _ _ _ ?_ (h2 o ds _ q)
  exact ⟨fun env ⟨l, o', he, q⟩ => fin _ env l o' he q, fun r env ⟨l, o', he, q⟩ => fin _ env l o' he q, fun _ h => h.elim, fun _ h => h.elim⟩
end
section
variable {X : Cx} {G : Gx} {e : Expr} {es : List Expr} {wd : WAD} {x : Str} {k j : Nat} {tabs : List Addr} {p pos : Pos} {W : WFn}
theorem ge_callFG (c : CalG X.prog X.w X.K X.mg X.base k x (spW X.K tabs (liftF W))) (hgd : X.A.guards = some []) (hr : Room j X.A) (hk : k ≤ j) (hg : Gl X x) (hK : X.K = G.K) (ht : tabs = G.tabs) (mW : MonoF W) (ha : GD X G (e :: es) wd)
    (hdb : (x == ("__debug__" : Str)) = false := by decide) (he : starEach (e :: es) X.env = (false, eval e X.env) :: starEach es X.env := by rfl) (hpl : (backTo pos (starEach es X.env)).any (·.1) = false := by rfl) :
    GE X G (.Call (.Name x p) (e :: es) [] pos) (wCallF W wd) := by
  subst ht
  obtain ⟨f, fd, ps, F, hm, kp, b⟩ := c.ex
  refine ge_imp (⟨pe_imp (pe_callG F hgd hr hk hg hm kp b ha.ga.pa hdb he hpl) fun σ H Q ⟨T, env, F, r, q⟩ => ⟨T, env, F, r, ha.ga.mono _ _ _ (fun ags e1 h vs T1 H1 F1 Fa a1 z1 => ?_) (call_core r (mono_liftF mW) ha.ga.mono hK q)⟩, mono_call (mono_liftF mW) ha.ga.mono⟩ : GE X G _ (wCall (liftF W) _)) (fun _ _ q => callF_call mW ha.mono q) (mono_callF mW ha.mono)
  exact (h vs T1 H1 F1 Fa a1 z1).2
theorem ge_callGG {W : WD} {wa : WA} (c : CalG X.prog X.w X.K X.mg X.base k x (spW X.K tabs W)) (hgd : X.A.guards = some []) (hr : Room j X.A) (hk : k ≤ j) (hg : Gl X x) (hK : X.K = G.K) (ht : tabs = G.tabs) (mw : MonoD W) (ha : GA X G (e :: es) wa)
    (hdb : (x == ("__debug__" : Str)) = false := by decide) (he : starEach (e :: es) X.env = (false, eval e X.env) :: starEach es X.env := by rfl) (hpl : (backTo pos (starEach es X.env)).any (·.1) = false := by rfl) :
    GE X G (.Call (.Name x p) (e :: es) [] pos) (wCall W wa) := by
  subst ht
  obtain ⟨f, fd, ps, F, hm, kp, b⟩ := c.ex
  refine ⟨pe_imp (pe_callG F hgd hr hk hg hm kp b ha.pa hdb he hpl) fun σ H Q ⟨T, env, F, r, q⟩ => ⟨T, env, F, r, ha.mono _ _ _ (fun ags e1 h vs T1 H1 F1 Fa a1 z1 => ?_) (call_core r mw ha.mono hK q)⟩, mono_call mw ha.mono⟩
  exact (h vs T1 H1 F1 Fa a1 z1).2
theorem ge_callVG {W : WUn} {w : WE} (c : CalG X.prog X.w X.K X.mg X.base k x (spW X.K tabs (liftU W))) (hgd : X.A.guards = some []) (hr : Room j X.A) (hk : k ≤ j) (hg : Gl X x) (hK : X.K = G.K) (ht : tabs = G.tabs) (mW : MonoU2 W) (hv : GE X G e w) (ha : GD X G es wd)
    (hdb : (x == ("__debug__" : Str)) = false := by decide) (he : starEach (e :: es) X.env = (false, eval e X.env) :: starEach es X.env := by rfl) (hpl : (backTo pos (starEach es X.env)).any (·.1) = false := by rfl) :
    GE X G (.Call (.Name x p) (e :: es) [] pos) (wCallV W w wd) :=
  ge_imp (ge_callGG c hgd hr hk hg hK ht (mono_liftU mW) (ga_cons hv ha.ga he) hdb he hpl) (fun _ _ q => callV_call hv.mono mW ha.mono q) (mono_callV hv.mono mW ha.mono)
theorem ge_callUG {i : Nat} {W : WUn} (c : CalG X.prog X.w X.K X.mg X.base k x (spW X.K tabs (liftU W))) (hgd : X.A.guards = some []) (hr : Room j X.A) (hk : k ≤ j) (hg : Gl X x) (hK : X.K = G.K) (ht : tabs = G.tabs) (mW : MonoU2 W) (hv : PE X e (tVar i)) (ha : GD X G es wd)
    (hdb : (x == ("__debug__" : Str)) = false := by decide) (he : starEach (e :: es) X.env = (false, eval e X.env) :: starEach es X.env := by rfl) (hpl : (backTo pos (starEach es X.env)).any (·.1) = false := by rfl) :
    GE X G (.Call (.Name x p) (e :: es) [] pos) (wCallU i W wd) :=
  ge_imp (ge_callGG c hgd hr hk hg hK ht (mono_liftU mW) (ga_slot hv ha.ga he) hdb he hpl) (fun _ _ q => callU_call mW ha.mono q) (mono_callU mW ha.mono)
end
end Fx

namespace Lk
open PySem PySem.Spec PyProof.Rows L2 Evl
/-! ### the law's end, where no guard stands -/
section
variable {P : Program} {w : World} {K : PySem.W.Frag} {mg mb : Str → Option Value}
theorem lawXG {k : Nat} {fa a : Addr} {cs : List (Addr × Addr)} {fd : FuncData} {x : Str} {sp : Sp} {s1 : Shared} {vs : List Value} {ns : List Int}
    (KX : K.In s1.heap) (hns : s1.heap.Ns mainGlobals mg) (hb : s1.heap.Ns builtinsNs mb) (hbb : ∀ x : Str, x ≠ "__name__" → mb x = bootBuiltins x) (hlim : s1.heap.NoLimit) (hg : s1.gens = #[])
    (hT : ∀ p ∈ cs, s1.heap.get? p.2 = some { cls := .none, data := .fields #[] }) (nT : ∀ p ∈ cs, K.lookup p.2 = none) (C : ∀ p ∈ cs, PySem.W.CodeHd s1.heap p.1 p.2)
    (hbm : ∃ (bm : Addr) (ob : Obj), mg "__builtins__" = some (.ref bm) ∧ bm ≠ builtinsNs ∧ s1.heap.get? bm = some ob ∧ ob.cls = .type "module" ∧ ob.dict = some builtinsNs ∧ ob.data = .plain)
    (ha : s1.heap.get? a = some { cls := .type "list", data := .seq vs.toArray }) (hi : IntsAre vs ns) (hl : ns.length ≤ sizeLine) (hr : Room k callerA)
    (F : ∀ base : Heap, K.In base → base.Ns mainGlobals mg → (∀ p ∈ cs, GxR.TabB base mg p.1 p.2) → FnG P w K mg base k fa fd [x] sp) (hbind : ∀ (s : Shared) (u : Value), BindsTo s fd ⟨[u], []⟩ [(x, u)])
    (hsp : ∀ H : Hp, (∀ p ∈ cs, H p.2 = some (TabO p.2)) → SqX K H a (ns.map V.int) → sp [.ref a] H (fun v H' => v = .bl true ∧ ∀ p ∈ cs, H' p.2 = some (TabO p.2)) fun _ _ _ => False) :
    codeAny (model P w) callerA (.call (.ref fa) ⟨[.ref a], []⟩) (fun r s' => r = .ok (.ret (.bool true)) ∧ OldK s1.heap s'.heap ∧ s'.os = s1.os ∧ AllBare s'.gens) s1 := by
  have rv := vals_ints hi
  have lenV := hi.length
  let ts := cs.map (·.2)
  let H : Hp := entryH K ts a { cls := .type "list", data := .seq vs.toArray } (ns.map V.int)
  have inT : ∀ p ∈ cs, p.2 ∈ ts := fun p hp => List.mem_map.mpr ⟨p, hp, rfl⟩
  have isT : ∀ b : Addr, b ∈ ts → s1.heap.get? b = some { cls := .none, data := .fields #[] } ∧ K.lookup b = none := fun b hb => by
    obtain ⟨p, hp, e⟩ := List.mem_map.mp hb
    rw [← e]
    exact ⟨hT p hp, nT p hp⟩
  have aT : a ∉ ts := fun z => by
    have q := (isT a z).1
    rw [ha] at q
    have z' : Data.seq vs.toArray _ = Data.fields #[] := congrArg Obj.data (Option.some.inj q)
    cases z'
  -- what is neither a list nor an empty table is not tracked
  have free : ∀ {b : Addr} {o : Obj}, s1.heap.get? b = some o → (∀ zs n, o.data ≠ .seq zs n) → o.data ≠ .fields #[] → H b = none := fun {b o} e h1 h2 => by
    cases q : H b with
    | none => rfl
    | some u =>
      rcases entry_some q with ⟨hb, _⟩ | ⟨_, hb, _⟩
      · rw [(isT b hb).1] at e
        cases e
        exact (h2 rfl).elim
      · rw [hb, ha] at e
        cases e
        exact (h1 _ _ rfl).elim
  have freeD : ∀ {b : Addr} {o : Obj} {es : Array DictEntry} {ep : Nat}, s1.heap.get? b = some o → o.data = .dict es ep → H b = none := fun {b o es ep} e d => by
    refine free e (fun zs n z => ?_) fun z => ?_
    · rw [d] at z
      cases z
    · rw [d] at z
      cases z
  have nsK : ∀ {b : Addr} {m : Str → Option Value}, s1.heap.Ns b m → (hidT s1.heap H).Ns b m := fun {b m} ⟨o, es, ep, e, d, r⟩ => ⟨o, es, ep, hidT_get e (freeD e d), d, r⟩
  have hKb : K.In (hidT s1.heap H) := fun b o e => hidT_get (KX b o e) (by
    cases q : H b with
    | none => rfl
    | some u =>
      rcases entry_some q with ⟨hb, _⟩ | ⟨_, hb, hk, _⟩
      · rw [(isT b hb).2] at e
        cases e
      · rw [hb, hk] at e
        cases e)
  have hM : L2.Mod K mg (hidT s1.heap H) := ⟨hKb, nsK hns, ⟨mb, nsK hb, hbb⟩, let ⟨mc, h1, h2⟩ := hlim; ⟨mc, nsK h1, h2⟩⟩
  have TB : ∀ p ∈ cs, GxR.TabB (hidT s1.heap H) mg p.1 p.2 := fun p hp => by
    have hTp := hT p hp
    refine ⟨?_, ?_, fun z => ?_⟩
    · obtain ⟨o, us, file, tf, flags, tg, inF, text, tt, e1, r1, r2, r3, r⟩ := C p hp
      refine ⟨o, us, file, tf, flags, tg, inF, text, tt, hidT_get e1 (free e1 (fun zs n z => ?_) fun z => ?_), r1, r2, r3, r⟩
      · rw [r2] at z
        cases z
      · rw [r2] at z
        cases z
        simp at r3
    · obtain ⟨bm, ob, b1, b2, b3, b4, b5, b6⟩ := hbm
      refine ⟨bm, ob, b1, b2, fun q => ?_, fun q => ?_, hidT_get b3 (free b3 (fun zs n z => ?_) fun z => ?_), b4, b5, b6⟩
      · obtain ⟨o, es, ep, e, hd, _⟩ := hns
        rw [q, e] at b3
        cases b3
        rw [hd] at b6
        cases b6
      · rw [q, hTp] at b3
        cases b3
        cases b6
      · rw [b6] at z
        cases z
      · rw [b6] at z
        cases z
    · obtain ⟨o, es, ep, e, hd, _⟩ := hns
      rw [z, hTp] at e
      cases e
      cases hd
  have hok : HOk P w H s1.heap := fun b u z => by
    rcases entry_some z with ⟨hb, rfl⟩ | ⟨_, rfl, _, rfl⟩
    · have e := (isT b hb).1
      refine ⟨⟨#[], e, True.intro⟩, ⟨_, e⟩, ?_⟩
      rintro h1 h2 ⟨ps, e1, e2⟩ kp
      exact ⟨ps, kp _ e1, e2⟩
    · exact ⟨ha, by rw [List.length_map]; exact hl, vs, _, rv, ha⟩
  have hS : SqX K H a (ns.map V.int) := by
    cases hk : K.lookup a with
    | some o =>
      have e := KX a o hk
      rw [ha] at e
      cases e
      exact .inr ⟨vs, hk, by rw [List.length_map]; exact hl, rv⟩
    | none => exact .inl (.inr ⟨_, show entryH K ts a _ _ a = _ by unfold entryH; rw [if_neg aT, if_pos ⟨rfl, hk⟩]⟩)
  have e0 : Env0 P w K mg (hidT s1.heap H) callerA [] s1 H := ⟨rfl, hM, fun b o e => of_hidT e, Nat.le_of_eq (hidT_size _ _), trivial, fun b hb => absurd (show b ∈ ([] : List Addr) from hb) (by simp), hok, .of_eq hg⟩
  refine codeAny_mono ((F _ hKb (nsK hns) TB).run callerA [] s1 H ⟨[.ref a], []⟩ [.ref a] [.ref a] _ _ rfl hr e0 (hbind s1 (.ref a)) (.cons rfl .nil) (hsp H (fun p hp => entry_tab (inT p hp)) hS)) fun r s' h => ?_
  cases r with
  | error e => exact False.elim h
  | ok fl =>
    cases fl with
    | next => exact False.elim h
    | brk => exact False.elim h
    | cont => exact False.elim h
    | ret u =>
      obtain ⟨v, H', os, bare, un, hok', r', q⟩ := h
      obtain ⟨qv, qT⟩ : v = .bl true ∧ ∀ p ∈ cs, H' p.2 = some (TabO p.2) := q
      subst qv
      obtain rfl : u = Value.bool true := r'
      have key : ∀ b o, b ∉ ts → s1.heap.get? b = some o → s'.heap.get? b = some o := fun b o nb e => by
        cases q : H b with
        | none => exact un.keep b o e q (by intro z; exact absurd (show b ∈ ([] : List Addr) from z) (by simp)) (by simp)
        | some u =>
          rcases entry_some q with ⟨z, _⟩ | ⟨_, rfl, _, rfl⟩
          · exact absurd z nb
          · obtain ⟨e1, _⟩ := hok b _ q
            obtain ⟨e2, _⟩ := hok' b _ (un.frzs b _ _ q)
            rw [e] at e1
            cases e1
            exact e2
      have grown : ∀ p ∈ cs, ∃ more : Array Value, s'.heap.get? p.2 = some { cls := .none, data := .fields more } := fun p hp => by
        obtain ⟨⟨ps, e, _⟩, _, _⟩ := hok' p.2 _ (qT p hp)
        exact ⟨ps, e⟩
      refine ⟨rfl, ⟨fun b o e => ?_, fun b o e => ?_⟩, os, bare⟩
      · by_cases hb : b ∈ ts
        · obtain ⟨p, hp, ep⟩ := List.mem_map.mp hb
          obtain ⟨more, hm⟩ := grown p hp
          have ep' : p.2 = b := ep
          rw [← ep'] at e ⊢
          rw [hT p hp] at e
          cases e
          exact .inr (.inl ⟨((C p hp).tab (hT p hp)).isCodeTable, rfl, #[], more, rfl, by rw [Array.empty_append]; exact hm⟩)
        · exact .inl (key b o hb e)
      · by_cases hb : b ∈ ts
        · obtain ⟨p, hp, ep⟩ := List.mem_map.mp hb
          obtain ⟨more, hm⟩ := grown p hp
          have ep' : p.2 = b := ep
          rw [← ep']
          exact ⟨_, hm⟩
        · exact ⟨o, key b o hb e⟩
end
def LawAtG (l : PySem.W.OpenLaw) (w : World) (K : PySem.W.Frag) (k n : Nat) (x : Str) (mg : Str → Option Value) (h : Heap) (fa : Addr) : Prop :=
  ∃ (fd : FuncData) (cs : List (Addr × Addr)) (sp : Sp), (∀ p ∈ cs, h.get? p.2 = some { cls := .none, data := .fields #[] }) ∧ (∀ p ∈ cs, K.lookup p.2 = none) ∧ (∀ p ∈ cs, PySem.W.CodeHd h p.1 p.2) ∧ (∀ (s : Shared) (u : Value), BindsTo s fd ⟨[u], []⟩ [(x, u)]) ∧
    (∀ (H : Hp) (a : Addr) (ns : List Int), ns.length ≤ n → (∀ z ∈ ns, Builtin.Int.intBits z ≤ 1048576) → (∀ p ∈ cs, H p.2 = some (TabO p.2)) → SqX K H a (ns.map V.int) → sp [.ref a] H (fun v H' => v = .bl true ∧ ∀ p ∈ cs, H' p.2 = some (TabO p.2)) fun _ _ _ => False) ∧
    ∀ base : Heap, K.In base → base.Ns mainGlobals mg → (∀ p ∈ cs, GxR.TabB base mg p.1 p.2) → FnG l.prog w K mg base k fa fd [x] sp
theorem walkXG {l : PySem.W.OpenLaw} {n k : Nat} {q : Program} {loose : List Str} {XP : (Str → Option Value) → Heap → Prop} {YP : World → Heap → Prop} {d : DefRec} {K : Params → PySem.W.Frag} {x : Str}
    (hn : l.most = some n) (hn2 : n ≤ sizeLine) (hdf : d.params.defaults = []) (hr : Room k callerA) (hY : ∀ (w : World) (h : Heap), YP w h → (K w.params).In h)
    (F : ∀ (w : World) (mg mb : Str → Option Value) (fa : Addr) (s0 : Shared) (h : Heap), PySem.W.Ground q loose [] XP w s0 mg mb h → YP w h → (K w.params).In h → h.Ns mainGlobals mg → mg d.name = some (.ref fa) → LawAtG l w (K w.params) k n x mg h fa) :
    PySem.W.WalkO q loose XP YP l.row.toRowW d [] (fun f vs => PySem.call f vs) := by
  refine Att.attach_callB hn hdf fun w s0 s1 mg mb fa o pm cd doc a vs ns G Y ho hd hcd hmg hobj hints hlen hbits hg => ?_
  have KX := hY w _ Y
  obtain ⟨fd, cs, sp, hT, nT, C, hb, hsp, hF⟩ := F w mg mb fa s0 _ G Y KX G.T.g hmg
  exact lawXG KX G.T.g G.T.b G.T.builtins G.T.nolimit hg hT nT C G.T.bmain hobj hints (Nat.le_trans hlen hn2) hr hF hb (fun H hH hS => hsp H a ns hlen hbits hH hS)
end Lk
namespace Fx
open PySem PySem.Spec PyProof.Rows L2 Evl Lk
theorem law_atG {l : PySem.W.OpenLaw} {w : World} {K : PySem.W.Frag} {k : Nat} {x : Str} {mg : Str → Option Value} {h : Heap} {fa : Addr} {fd : FuncData} {cs : List (Addr × Addr)}
    (hT : ∀ p ∈ cs, h.get? p.2 = some { cls := .none, data := .fields #[] }) (nT : ∀ p ∈ cs, K.lookup p.2 = none) (C : ∀ p ∈ cs, PySem.W.CodeHd h p.1 p.2) (hb : ∀ (s : Shared) (u : Value), BindsTo s fd ⟨[u], []⟩ [(x, u)])
    (F : ∀ base : Heap, K.In base → base.Ns mainGlobals mg → (∀ p ∈ cs, GxR.TabB base mg p.1 p.2) → FnG l.prog w K mg base k fa fd [x] (spW K (cs.map (·.2)) (liftF wLaw))) : LawAtG l w K k 63 x mg h fa := by
  refine ⟨fd, cs, _, hT, nT, C, hb, fun H a ns hn _ hH hS => ?_, F⟩
  have e : Ex H (hid (fun _ => False) H) := fun b o q => hid_of q id
  refine ⟨fun _ => False, [.f (.lst (ns.map D.int))], fun _ => [], ⟨fun _ z => z.elim, fun p hp => ?_, fun i s hs => ?_, fun i j _ ⟨o, ho⟩ => ?_, .refl fun _ z => z.elim, fun b ⟨i, ⟨o, ho⟩, _⟩ => ?_, fun _ z => z.elim, fun _ _ => rfl, rfl, ex_none⟩, [.lst (ns.map D.int)], rfl, ns, rfl, hn, fun v T' H' F' fr r' _ zs => ?_⟩
  · obtain ⟨q, hq, rfl⟩ := List.mem_map.mp hp
    exact ⟨hH q hq, id⟩
  · cases i with
    | zero =>
      cases hs
      exact ⟨.ref a, rfl, .lst (ex_l e hS.l) (fz_ints ns), rfl⟩
    | succ i => cases hs
  · cases i with
    | zero => cases ho
    | succ i => cases ho
  · cases i with
    | zero => cases ho
    | succ i => cases ho
  · have z := zs.rel.1
    cases z
    exact ⟨rfl, fun p hp => (r'.tab p.2 (List.mem_map.mpr ⟨p, hp, rfl⟩)).1⟩
end Fx

/-! repr of a dict of values -/
namespace Fx
open PySem PySem.Spec PyProof.Rows L2 Evl Lk
def keyPy : Key → PyData
  | .inl i => .int i
  | .inr x => .str x
def dictPy (l : List (Key × D)) : PyData := .dict (l.map fun p => (keyPy p.1, p.2.py))
mutual
def flatP : PyData → Bool
  | .list _ => false
  | .dict _ => false
  | .tuple ds => flatPL ds
  | _ => true
def flatPL : List PyData → Bool
  | [] => true
  | d :: ds => flatP d && flatPL ds
end
mutual
theorem reads_flat {h : Heap} : ∀ {d : PyData} {u : Value} {as : List Addr}, Reads h u d as → flatP d = true → as = []
  | .none, _, _, r, _ => by cases r; rfl
  | .bool _, _, _, r, _ => by cases r; rfl
  | .int _, _, _, r, _ => by cases r; rfl
  | .str _, _, _, r, _ => by cases r; rfl
  | .list _, _, _, _, f => by simp [flatP] at f
  | .dict _, _, _, _, f => by simp [flatP] at f
  | .tuple ds, _, _, r, f => by
    cases r with
    | tuple a b c d => exact readsAll_flat d (by simpa [flatP] using f)
theorem readsAll_flat {h : Heap} : ∀ {ds : List PyData} {us : List Value} {as : List Addr}, ReadsAll h us ds as → flatPL ds = true → as = []
  | [], _, _, r, _ => by cases r; rfl
  | d :: ds, _, _, r, f => by
    cases r with
    | cons a b =>
      have f : flatP d = true ∧ flatPL ds = true := by simpa [flatPL] using f
      rw [reads_flat a f.1, readsAll_flat b f.2]
      rfl
end
section
variable {X : Cx} {pins : List (Addr × Obj)} {σ : L2.St} {H : Hp} {s : Shared} {T : Addr → Prop}
theorem reads_pairs (I : Inv X pins σ H s) : ∀ {kvs : List (Key × V)} {l : List (Key × D)} {vs : List (Key × Value)} {es : List DictEntry}, Zp X.K (hid T H) kvs l → KV kvs vs → Pairs (mixKind X.prog X.w) es vs → (∀ p ∈ l, okPy p.2 = true ∧ flatP p.2.py = true) →
    ReadsAll s.heap (es.map (·.key)) ((l.map fun p => (keyPy p.1, p.2.py)).map (·.1)) [] ∧ ReadsAll s.heap (es.map (·.val)) ((l.map fun p => (keyPy p.1, p.2.py)).map (·.2)) [] := by
  intro kvs l vs es z
  induction z generalizing vs es with
  | nil =>
    intro kv pr _
    cases kv
    cases pr
    exact ⟨.nil, .nil⟩
  | cons f z ih =>
    rename_i k v d kvs l
    intro kv pr ok
    cases kv with
    | cons a b =>
      rename_i kv2 vs
      cases pr with
      | cons e1 e2 pr =>
        rename_i e es
        obtain ⟨a1, a2⟩ := a
        obtain ⟨o1, o2⟩ := ok _ (List.mem_cons_self ..)
        obtain ⟨i1, i2⟩ := ih b pr fun p hp => ok p (List.mem_cons_of_mem _ hp)
        have dp := dp_ok (Fz.ex hid_ex f) o1
        obtain ⟨as, rd⟩ := dp.reads I _ _ _ a2
        have ea := reads_flat rd o2
        subst ea
        have rk : Reads s.heap e.key (keyPy k) [] := by
          have a1 : k = kv2.1 := a1
          rw [← a1] at e1
          rcases keyIs_shape e1 with ⟨j, t, hk, hv⟩ | ⟨x, t, hk, hv⟩
          · rw [hv, hk]; exact .int _ _
          · rw [hv, hk]; exact .str _ _
        rw [← e2] at rd
        exact ⟨.cons rk i1, .cons rd i2⟩
end
section
variable {X : Cx} {G : Gx} {e : Expr} {w : WE} {p pos : Pos}
def ReprOk (l : List (Key × D)) : Prop := (∀ p ∈ l, okPy p.2 = true ∧ flatP p.2.py = true) ∧ (dictPy l).showable = true ∧ (dictPy l).shown.length ≤ sizeLine ∧ (dictPy l).depth ≤ 100
theorem call_reprD (hgd : X.A.guards = some []) (hu : X.A.units + 101 < cLine) : CallR X (.builtin "repr") (fun xs H Q => ∃ (T : Addr → Prop) (a : Addr) (kvs : List (Key × V)) (l : List (Key × D)), xs = [.ref a] ∧ Rd H a (.dK kvs) ∧ Zp X.K (hid T H) kvs l ∧ ReprOk l ∧ Q (.str (dictPy l).shown) H) := by
  intro pins s σ H xs us Q I rv ⟨T, a, kvs, l, ex, rd, zp, ⟨o1, o2, o3, o4⟩, q⟩
  subst ex
  obtain ⟨u, rfl, ru⟩ := vals1 rv
  cases ru
  obtain ⟨z, hs, vs, rel, o, es, ep, h1, h2, h3, h4, h5, h6⟩ := dk_rd I.hok rd
  obtain ⟨r1, r2⟩ := reads_pairs I zp rel h5 o1
  have rr : Reads s.heap (.ref a) (dictPy l) (a :: [] ++ []) := .dict h1 h2.1 h3 r1 r2
  refine repr_of_reads' rr o2 (fun _ m => ?_) hgd (by omega) (fun _ _ e => e) (fun h' u tk k => ⟨.str _, H, I.kept k, ⟨u, rfl⟩, q⟩) o3
  have m : sysModules = a := by simpa using m
  rw [m] at hs
  simp at hs
def wReprD (w : WE) : WE := fun env Q => w env fun r e => ∃ l, r = .f (dicD l) ∧ ReprOk l ∧ Q (.f (.str (dictPy l).shown)) e
theorem ge_reprD (hgd : X.A.guards = some []) (hu : X.A.units + 101 < cLine) (hg : Gl X "repr") (hm : X.mg "repr" = none) (he : GE X G e w) (hK : X.K = G.K := by rfl) (hst : starEach [e] X.env = (false, eval e X.env) :: starEach [] X.env := by rfl) : GE X G (.Call (.Name "repr" p) [e] [] pos) (wReprD w) := by
  refine ⟨pe_imp (pe_callB (call_reprD hgd hu) hg hm rfl (pa_cons he.pe pa_nil hst) (by decide) (by decide) hst rfl) fun σ H Q ⟨T, env, F, r, q⟩ => ?_, fun env Q Q' i q => he.mono _ _ _ (fun s e ⟨l, h1, h2, q⟩ => ⟨l, h1, h2, i _ _ q⟩) q⟩
  refine ⟨T, env, F, r, he.mono _ _ _ (fun s e ⟨l, h1, h2, q⟩ x T1 H1 F1 f1 a1 z1 => ?_) q⟩
  subst h1
  obtain ⟨a, kvs, rfl, rd, zp⟩ := fz_dicD z1.rel.1
  exact ⟨T1, a, kvs, l, rfl, rd_un rd, by rw [hK]; exact zp, h2, q _ T1 H1 F1 [] a1 (res_f (.str _))⟩
theorem x_reprD {env : Env} {Q : Sl → Env → Prop} (h : w env fun r e => ∃ l, r = .f (dicD l) ∧ ReprOk l ∧ Q (.f (.str (dictPy l).shown)) e) : wReprD w env Q := h
theorem u101 {k : Nat} {A : Around} (hr : Room k A) : A.units + 101 < cLine := by have := hr.un; omega
end
end Fx

/-! texts compared, whatever they hold -/
namespace Fx
open PySem PySem.Spec PyProof.Rows L2 Evl Lk
def dEqS (neg : Bool) : Op2 := fun a b Q => ∃ x y : Str, a = .str x ∧ b = .str y ∧ Q (.bl (if neg = true then !decide (x = y) else decide (x = y)))
section
variable {X : Cx} {G : Gx}
theorem eq_strV (x y : Str) : decide (V.str x = V.str y) = decide (x = y) := decide_eq_decide.mpr ⟨fun h => by cases h; rfl, fun h => by rw [h]⟩
theorem opx_eqS : OpX X G (compareOp .Eq) (dEqS false) := by
  refine ⟨fun pins s σ H x y v u Q I rx ry ⟨T, d1, d2, t, c1, c2, x', y', h1, h2, q⟩ => ?_, fun a b Q Q' i ⟨x, y, h1, h2, q⟩ => ⟨x, y, h1, h2, i _ q⟩⟩
  subst h1 h2
  cases c1
  cases c2
  exact op_eq pins s σ H _ _ v u Q I rx ry ⟨rfl, by rw [eq_strV]; exact q _ H (Ex.refl H) (.bl _)⟩
theorem opx_neS : OpX X G (compareOp .NotEq) (dEqS true) := by
  refine ⟨fun pins s σ H x y v u Q I rx ry ⟨T, d1, d2, t, c1, c2, x', y', h1, h2, q⟩ => ?_, fun a b Q Q' i ⟨x, y, h1, h2, q⟩ => ⟨x, y, h1, h2, i _ q⟩⟩
  subst h1 h2
  cases c1
  cases c2
  exact op_ne pins s σ H _ _ v u Q I rx ry ⟨rfl, by rw [eq_strV]; exact q _ H (Ex.refl H) (.bl _)⟩
theorem x_eqS {x y : Str} {Q : D → Prop} (h : Q (.bl (decide (x = y)))) : dEqS false (.str x) (.str y) Q := ⟨x, y, rfl, rfl, h⟩
theorem x_neS {x y : Str} {Q : D → Prop} (h : Q (.bl (!decide (x = y)))) : dEqS true (.str x) (.str y) Q := ⟨x, y, rfl, rfl, h⟩
end
end Fx

namespace K04
open PySem PySem.Spec PyProof.Rows L2 Lk Evl Fx


def topS (i : Nat) : Stmt := PySem.Challenge.pw_leavechain_k04_rooms_written.main.body.getD i (.Pass ⟨0, 0, 0, 0⟩)
abbrev s_show_rooms : Stmt := topS 2
theorem sc_show_rooms : FnScope ["rooms", "name"] ["rooms"] (defScope s_show_rooms) := ⟨rfl, rfl, rfl, by decide +kernel, rfl, by decide +kernel, by decide +kernel⟩
abbrev s__show_room : Stmt := topS 3
theorem sc__show_room : FnScope ["name", "held"] ["name", "held"] (defScope s__show_room) := ⟨rfl, rfl, rfl, by decide +kernel, rfl, by decide +kernel, by decide +kernel⟩
abbrev s__show_pairs : Stmt := topS 4
theorem sc__show_pairs : FnScope ["words", "parts", "word", "part"] ["words", "parts"] (defScope s__show_pairs) := ⟨rfl, rfl, rfl, by decide +kernel, rfl, by decide +kernel, by decide +kernel⟩
abbrev s__law_urn : Stmt := topS 6
theorem sc__law_urn : FnScope ["cell", "k"] ["cell", "k"] (defScope s__law_urn) := ⟨rfl, rfl, rfl, by decide +kernel, rfl, by decide +kernel, by decide +kernel⟩
abbrev s__law_lot : Stmt := topS 7
theorem sc__law_lot : FnScope ["urn", "many", "found", "spun"] ["urn", "many"] (defScope s__law_lot) := ⟨rfl, rfl, rfl, by decide +kernel, rfl, by decide +kernel, by decide +kernel⟩
abbrev s__law_named : Stmt := topS 8
theorem sc__law_named : FnScope ["urn", "letters", "some", "k"] ["urn"] (defScope s__law_named) := ⟨rfl, rfl, rfl, by decide +kernel, rfl, by decide +kernel, by decide +kernel⟩
abbrev s__law_worth : Stmt := topS 9
theorem sc__law_worth : FnScope ["urn", "far"] ["urn"] (defScope s__law_worth) := ⟨rfl, rfl, rfl, by decide +kernel, rfl, by decide +kernel, by decide +kernel⟩
abbrev s__law_rooms : Stmt := topS 10
theorem sc__law_rooms : FnScope ["urn", "found", "k"] ["urn"] (defScope s__law_rooms) := ⟨rfl, rfl, rfl, by decide +kernel, rfl, by decide +kernel, by decide +kernel⟩
abbrev s__law_rows : Stmt := topS 11
theorem sc__law_rows : FnScope ["hall", "found", "name", "owner", "worth"] ["hall"] (defScope s__law_rows) := ⟨rfl, rfl, rfl, by decide +kernel, rfl, by decide +kernel, by decide +kernel⟩
abbrev s__law_otherwise : Stmt := topS 12
theorem sc__law_otherwise : FnScope ["urn", "hall", "left", "found", "k", "name"] ["urn", "hall"] (defScope s__law_otherwise) := ⟨rfl, rfl, rfl, by decide +kernel, rfl, by decide +kernel, by decide +kernel⟩
abbrev s__law_right : Stmt := topS 13
theorem sc__law_right : FnScope ["urn", "hall", "kept", "due", "found"] ["urn"] (defScope s__law_right) := ⟨rfl, rfl, rfl, by decide +kernel, rfl, by decide +kernel, by decide +kernel⟩
abbrev s_law : Stmt := topS 14
theorem sc_law : FnScope ["script", "k", "cell"] ["script"] (defScope s_law) := ⟨rfl, rfl, rfl, by decide +kernel, rfl, by decide +kernel, by decide +kernel⟩
local macro_rules | `(tactic| walk_at "sz") => `(tactic| first
  | exact Nat.le_of_ble_eq_true rfl
  | assumption
  | exact small_sz (Nat.le_of_ble_eq_true rfl)
  | (simp only [List.length_cons, List.length_nil, List.length_map, List.length_append]; first | omega | exact small_sz (by omega)))
local macro_rules | `(tactic| walk_at "x1") => `(tactic| first
  | with_reducible refine x_seq ?_
  | (with_reducible show wVar _ _ _); first | refine x_varF rfl ?_ | refine x_varO rfl ?_ | refine x_varV rfl ?_
  | with_reducible refine x_c ?_
  | with_reducible refine x_exf ?_
  | with_reducible refine x_excd ?_
  | (with_reducible show ∃ d1, Sl.cd (Sl.vw _) = some d1 ∧ _); refine x_excV rfl ?_
  | (with_reducible show ∃ d1, Sl.cd (Sl.own _) = some d1 ∧ _); refine x_excO rfl ?_
  | with_reducible refine x_binP ?_
  | with_reducible refine x_bin ?_
  | with_reducible refine x_adC ?_
  | with_reducible refine x_adN ?_
  | with_reducible refine x_lst ?_
  | with_reducible refine x_tup ?_
  | with_reducible refine x_lstO ?_
  | (with_reducible refine x_and (p := _ ≤ sizeLine) ?h ?_); (case h => walk_at "sz")
  | with_reducible refine x_callF ?_
  | (with_reducible show wCallU _ _ _ _ _); refine x_callU rfl ?_
  | with_reducible refine x_callV ?_
  | with_reducible refine x_join ?_
  | with_reducible refine x_waD ?_
  | with_reducible refine x_lc ?_
  | with_reducible refine x_lc2 ?_
  | with_reducible refine x_lenSets ?_
  | (with_reducible show wApp _ _ _ _); refine x_app rfl ?_
  | (with_reducible show wBinV _ _ _ _ _); refine x_binV rfl ?_
  | (with_reducible show wPopD _ _ _ _); refine x_popD rfl ?_
  | (with_reducible show wCatV _ _ _ _); refine x_catV rfl ?_
  | with_reducible refine x_slN2 ?_
  | with_reducible refine x_sortedSets ?_
  | with_reducible refine x_tplL ?_
  | with_reducible refine x_tplT ?_
  | with_reducible refine x_isB ?_
  | with_reducible refine x_r1 ?_
  | with_reducible refine x_r2 ?_
  | (with_reducible refine x_r1e ?h0 ?h1 ?_); (case h0 => omega); (case h1 => omega)
  | with_reducible refine x_iL ?_
  | with_reducible refine x_iT ?_
  | with_reducible refine x_iS ?_
  | with_reducible refine x_iE ?_
  | with_reducible refine x_iEe ?_
  | with_reducible refine x_yes ?_
  | with_reducible refine x_for ?_
  | (with_reducible show wLot _ [D.int _] _); (refine' x_lot (by assumption) ?h1 ?h2 ?h3 ?_); (case h1 => omega); (case h2 => first | decide | omega); (case h3 => first | decide | omega)
  | (with_reducible show ∃ o, _ = some (some (Sl.own o)) ∧ _); refine x_exO rfl ?_
  | with_reducible refine x_exo ?_
  | with_reducible refine x_ret ?_
  | with_reducible refine x_set ?_
  | with_reducible refine x_fin ?_
  | with_reducible refine x_fino ?_
  | (with_reducible refine x_and (p := _ < List.length _) ?h ?_); (case h => exact Nat.le_of_ble_eq_true rfl); (try dsimp only [List.set_cons_succ, List.set_cons_zero])
  | with_reducible refine x_next ?_
  | with_reducible refine x_retN ?_
  | with_reducible refine x_drop ?_
  | with_reducible refine x_asg ?_
  | (with_reducible refine x_gtp ?h ?_); (case h => rfl)
  | with_reducible refine x_gcons ?_
  | with_reducible refine x_gnil ?_
  | (with_reducible refine x_gn ?h ?_); (case h => exact Nat.le_of_ble_eq_true rfl); (try dsimp only [List.set_cons_succ, List.set_cons_zero])
  | with_reducible refine x_ifS ?_
  | with_reducible refine x_if ?_
  | with_reducible refine x_itT ?_
  | with_reducible refine x_itF ?_
  | with_reducible refine x_iteN ?_
  | with_reducible refine x_tru ?_
  | with_reducible refine x_tB ?_
  | with_reducible refine x_dtB ?_
  | with_reducible refine x_dtN ?_
  | with_reducible refine x_exb ?_
  | with_reducible refine x_exdb ?_
  | with_reducible refine x_tand ?_
  | with_reducible refine x_tor ?_
  | with_reducible refine x_tnot ?_
  | with_reducible refine x_and2 ?_
  | with_reducible refine x_or2 ?_
  | with_reducible refine x_not2 ?_
  | with_reducible refine x_chain ?_
  | with_reducible refine x_sub ?_
  | with_reducible refine x_addI ?_
  | (with_reducible refine x_addS ?h ?_); (case h => walk_at "sz")
  | (with_reducible refine x_addL ?h ?_); (case h => walk_at "sz")
  | (with_reducible refine x_addT ?h ?_); (case h => walk_at "sz")
  | with_reducible refine x_lt ?_
  | with_reducible refine x_le ?_
  | with_reducible refine x_gt ?_
  | with_reducible refine x_ge ?_
  | with_reducible refine x_ltS ?_
  | with_reducible refine x_eqI ?_
  | with_reducible refine x_neI ?_
  | with_reducible refine x_allSg ?_
  | with_reducible refine x_m0 ?_
  | with_reducible refine x_lstT ?_
  | with_reducible refine x_lstL ?_
  | with_reducible refine x_strB ?_
  | with_reducible refine x_strN ?_
  | with_reducible refine x_strS ?_
  | with_reducible refine x_isT ?_
  | with_reducible refine x_isI ?_
  | with_reducible refine x_neg ?_
  | with_reducible refine x_un ?_
  | (with_reducible refine x_pow ?h ?_); (case h => exact ⟨by decide, by decide +kernel⟩)
  | (with_reducible refine x_mod ?h ?_); (case h => first | decide | omega)
  | (with_reducible refine x_mul ?h ?_); (case h => exact mul_ok (by first | decide | omega) (by first | decide | omega))
  | (with_reducible refine x_div ?h ?_); (case h => exact div_ok (by first | decide | omega) (by first | decide | omega))
  | with_reducible refine x_ipA ?_
  | (with_reducible show wAugL _ _ _ _ _ _); refine x_augL rfl ?_
  | (with_reducible show wAug _ _ _ _ _); refine x_aug rfl ?_
  | (with_reducible show ∃ k' ds d, Sl.f (D.int _) = Sl.f (D.int k') ∧ _); refine x_augL1 rfl (by decide) rfl ?_
  | (with_reducible show ∃ k' j ds, Sl.f (D.int _) = Sl.f (D.int k') ∧ _ = some (some (Sl.own (O.lst ds))) ∧ ixN _ k' = some j ∧ _); refine x_setL1 rfl rfl ?_; (try dsimp only [List.set_cons_succ, List.set_cons_zero])
  | (with_reducible show ∃ ds j, _ = some (some (Sl.own (O.lst ds))) ∧ ixN _ _ = some j ∧ _); refine x_augL2 rfl rfl ?_; (try dsimp only [List.set_cons_succ, List.set_cons_zero])
  | (with_reducible show gSetL _ _ _ _ _); refine x_setL rfl ?_
  | (with_reducible show dIx (D.lst _) (D.int _) _); refine x_ixL rfl ?_
  | (with_reducible show dIx (D.tup _) (D.int _) _); refine x_ixT rfl ?_
  | with_reducible refine x_cb ?_
  | (with_reducible show wCB1 _ _ _ _); refine x_cb1 rfl rfl ?_
  | with_reducible refine x_fm ?_
  | with_reducible refine x_exl ?_
  | with_reducible refine x_ext ?_
  | with_reducible refine x_exs ?_
  | with_reducible refine x_exi ?_
  | with_reducible refine x_sl ?_
  | with_reducible refine x_slN ?_
  | with_reducible refine x_slS ?_
  | with_reducible refine x_frz ?_
  | with_reducible refine x_frL ?_
  | with_reducible refine x_revT ?_
  | with_reducible refine x_revL ?_
  | with_reducible refine x_splitO ?_
  | (with_reducible show wSlO _ _ _ _ _); refine x_slO rfl ?_
  | (with_reducible show ∃ ds2, _ = some (some (Sl.own (O.lst ds2))) ∧ _); refine x_exOl rfl ?_
  | with_reducible refine x_dictO ?_
  | with_reducible refine x_psC ?_
  | with_reducible refine x_psN ?_
  | with_reducible refine x_get ?_
  | (with_reducible show gSetSl _ _ _ _ _ _); refine x_setSl rfl ?_
  | with_reducible refine x_split ?_
  | with_reducible refine x_isN1 ?_
  | with_reducible refine x_isN0 rfl ?_
  | with_reducible refine x_iZ ?_
  | with_reducible refine x_zT ?_
  | with_reducible refine x_zL ?_
  | with_reducible refine x_stp ?_
  | with_reducible refine x_js ?_
  | with_reducible refine x_jsC ?_
  | with_reducible refine x_jsN ?_
  | with_reducible refine x_fmt ?_
  | with_reducible refine x_callFX ?_
  | (with_reducible refine x_glp ?h ?_); (case h => rfl)
  | with_reducible refine x_raiseR ?_
  | with_reducible refine x_row ?_
  | with_reducible refine x_lenL ?_
  | with_reducible refine x_lenT ?_
  | with_reducible refine x_lenD ?_
  | (with_reducible refine x_lenS ?h ?_); (case h => walk_at "sz")
  | with_reducible refine x_max ?_
  | with_reducible refine x_min ?_
  | with_reducible refine x_intI ?_
  | with_reducible refine x_intB ?_
  | (with_reducible refine x_isInt ?h ?_); (case h => first | assumption | exact part_ty (by assumption) | (intro _ hh; cases hh; done))
  | (with_reducible refine x_isBl ?h ?_); (case h => first | assumption | exact part_ty (by assumption) | (intro _ hh; cases hh; done))
  | (with_reducible refine x_isStr ?h ?_); (case h => first | assumption | exact part_ty (by assumption) | (intro _ hh; cases hh; done))
  | (with_reducible refine x_isTup ?h ?_); (case h => first | assumption | exact part_ty (by assumption) | (intro _ hh; cases hh; done))
  | (with_reducible refine x_isLst ?h ?_); (case h => first | assumption | exact part_ty (by assumption) | (intro _ hh; cases hh; done))
  | (with_reducible refine x_isDic ?h ?_); (case h => first | assumption | exact part_ty (by assumption) | (intro _ hh; cases hh; done))
  | (with_reducible refine x_itTe ?e ?_); (case e => rfl)
  | (with_reducible refine x_itFe ?e ?_); (case e => rfl)
  | ((with_reducible show _ ∧ _); refine And.intro (Nat.le_of_ble_eq_true rfl) ?_))
local macro_rules | `(tactic| walk_at "x") => `(tactic| repeat (walk_at "x1"))

structure Txt (K : PySem.W.Frag) (mg : Str → Option Value) : Prop where
  z_enumerate : mg "enumerate" = none
  z_isinstance : mg "isinstance" = none
  z_len : mg "len" = none
  z_max : mg "max" = none
  z_min : mg "min" = none
  z_range : mg "range" = none
  z_repr : mg "repr" = none
  z_sorted : mg "sorted" = none
  z_str : mg "str" = none
  z_zip : mg "zip" = none
  g_ROOM_WORDS : ∃ v u, mg "ROOM_WORDS" = some u ∧ RelV v u ∧ ∀ H, Fz K H v (.tup [.str "room", .str "of", .str "holds"])
section
variable {P : Program} {w : World} {K : PySem.W.Frag} {mg : Str → Option Value} {base : Heap} {tabs : List Addr}
theorem ok_urn (T : Txt K mg) (A : At K mg "_law_urn" s__law_urn ["cell", "k"]) : Cal P w K mg base 1 "_law_urn" (spW K tabs (liftF wUrn)) := by
  refine A.of fun f fd F => fx_fnF F sc__law_urn (fun ds Q ⟨c, k, h, _⟩ => by rw [h]; rfl) fun cdv A outer s H E TT P0 σ0 hcd hr => ⟨_, (gss_one (gs_ret (ge_lstOD (gd_cons (ge_cbB (cax_max2 rfl) (by rfl) T.z_max (by decide +kernel) (gd_cons (GE.of_pure gp_int) (gd_cons (GE.of_pure (gp_op opx_sub (gp_var (pv 0)) (gp_op opx_pow gp_int gp_int))) gd_nil))) (gd_cons (GE.of_pure (gp_op opx_add (gp_op opx_mod (gp_var (pv 0)) (gp_op opx_add (gp_op opx_pow gp_int gp_int) gp_int)) (gp_op opx_mul gp_int (gp_var (pv 1))))) (gd_cons (GE.of_pure gp_int) gd_nil)))))), fun ds Q ⟨c, k, h, k0, k1, q⟩ => ?_⟩
  subst h
  refine x_start (e := [some (.f (.int c)), some (.f (.int k))]) rfl ?_
  walk_at "x"
  refine q _ ⟨_, _, _, rfl, ?_, Int.le_refl _, Int.le_refl _⟩
  have hM : (0 : Int) < 10 ^ Int.toNat 41 + 63 := by decide
  have hM2 : (10 : Int) ^ Int.toNat 41 + 63 < 2 ^ 190 := by decide
  have a := Int.emod_nonneg c (show (10 : Int) ^ Int.toNat 41 + 63 ≠ 0 by omega)
  have b := Int.emod_lt_of_pos c hM
  omega
theorem ok_lot (A : At K mg "_law_lot" s__law_lot ["urn", "many"]) : Cal P w K mg base 1 "_law_lot" (spW K tabs (liftU wLot)) := by
  refine A.of fun f fd F => fx_fnU F sc__law_lot (fun o ds Q ⟨n, m, h, _⟩ => by rw [h]; rfl) fun cdv A outer s H E TT P0 σ0 hcd hr => ⟨_, (gss_cons (gs_if (gt_cmpP opx_gt (gp_ix ixx (gp_var (pv 0)) gp_int (fun _ _ => rfl)) gp_int (nomark _))
      (gss_cons (gs_setE (i := 2) sc__law_lot.nd rfl (Or.inl rfl) (GE.of_pure (gp_op opx_mod (gp_ix ixx (gp_var (pv 0)) gp_int (fun _ _ => rfl)) (gp_var (pv 1)))))
      (gss_cons (gs_asg (GE.of_pure (gp_op opx_div (gp_ix ixx (gp_var (pv 0)) gp_int (fun _ _ => rfl)) (gp_var (pv 1)))) (gg_setL (pv 0) (GE.of_pure gp_int)))
      (gss_one (gs_ret (GE.of_pure (gp_var (pv 2)))))))
      gss_nil)
      (gss_cons (gs_augL (pv 0) (GE.of_pure gp_int) (GE.of_pure gp_int) ipx_add)
      (gss_cons (gs_setE (i := 3) sc__law_lot.nd rfl (Or.inl rfl) (GE.of_pure (gp_op opx_mod (gp_op opx_pow (gp_op opx_add (gp_ix ixx (gp_var (pv 0)) gp_int (fun _ _ => rfl)) (gp_op opx_mul gp_int (gp_ix ixx (gp_var (pv 0)) gp_int (fun _ _ => rfl)))) gp_int) (gp_op opx_add (gp_op opx_pow gp_int gp_int) gp_int))))
      (gss_cons (gs_setE (i := 3) sc__law_lot.nd rfl (Or.inl rfl) (GE.of_pure (gp_op opx_mod (gp_op opx_pow (gp_op opx_add (gp_var (pv 3)) (gp_op opx_mul (gp_op opx_mul gp_int (gp_ix ixx (gp_var (pv 0)) gp_int (fun _ _ => rfl))) (gp_ix ixx (gp_var (pv 0)) gp_int (fun _ _ => rfl)))) gp_int) (gp_op opx_add (gp_op opx_pow gp_int gp_int) gp_int))))
      (gss_one (gs_ret (GE.of_pure (gp_op opx_mod (gp_op opx_div (gp_var (pv 3)) gp_int) (gp_var (pv 1)))))))))), fun o ds Q ⟨n, m, h, ⟨a, b, c, ho, hb, hc, hc2⟩, hn, hm, hm2, q⟩ => ?_⟩
  subst h ho
  refine x_start (e := [some (.own (.lst [.int a, .int b, .int c])), some (.f (.int m)), none, none]) rfl ?_
  walk_at "x"
  refine x_iteD (fun ha => ?_) (fun ha => ?_)
  · walk_at "x"
    exact q _ _ (Int.emod_nonneg _ (by omega)) (Int.emod_lt_of_pos _ hm) ⟨_, _, _, rfl, hb, hc, by omega⟩
  · walk_at "x"
    refine x_pow (pow_ok (a := 240) ?_ (by decide) (by decide) (by decide)) ?_
    · have e : (2 : Nat) ^ 200 + 433494437 * 100001 < 2 ^ 240 := by decide
      omega
    walk_at "x"
    refine x_pow (pow_ok (a := 140) (lot_bound (by decide) (by decide) (by omega) (by omega)) (by decide) (by decide) (by decide)) ?_
    walk_at "x"
    exact q _ _ (Int.emod_nonneg _ (by omega)) (Int.emod_lt_of_pos _ hm) ⟨_, _, _, rfl, hb, by omega, by omega⟩
def wNamed : WUn := wDraw 11 fun r => ∃ x, r = .f (.str x) ∧ IsNm x
theorem mono__law_named : MonoU2 wNamed := mono_draw
theorem ok_named (T : Txt K mg) (c__law_lot : Cal P w K mg base 1 "_law_lot" (spW K tabs (liftU wLot))) (A : At K mg "_law_named" s__law_named ["urn"]) : Cal P w K mg base 2 "_law_named" (spW K tabs (liftU wNamed)) := by
  refine A.of fun f fd F => fx_fnU F sc__law_named (fun o ds Q ⟨n, h, _⟩ => by rw [h]; rfl) fun cdv A outer s H E TT P0 σ0 hcd hr => ⟨_, (gss_cons (gs_setE (i := 1) sc__law_named.nd rfl (Or.inr rfl) (GE.of_pure gp_str))
      (gss_cons (gs_setE (i := 2) sc__law_named.nd rfl (Or.inl rfl) (ge_lstD (gd_cons (GE.of_pure gp_str) (gd_cons (GE.of_pure gp_str) (gd_cons (GE.of_pure gp_str) (gd_cons (GE.of_pure gp_str) (gd_cons (GE.of_pure gp_str) (gd_cons (GE.of_pure gp_str) (gd_cons (GE.of_pure gp_str) (gd_cons (GE.of_pure gp_str) (gd_cons (GE.of_pure gp_str) (gd_cons (GE.of_pure gp_str) (gd_cons (GE.of_pure gp_str) (gd_cons (GE.of_pure gp_str) (gd_cons (GE.of_pure gp_str) gd_nil)))))))))))))))
      (gss_cons (gs_if (gt_cmp opx_gt (ge_callU c__law_lot hr (by decide) rfl rfl rfl mono__law_lot (pv 0) (gd_cons (GE.of_pure gp_int) gd_nil)) (GE.of_pure gp_int) (nomark _))
      (gss_one (gs_ret (ge_ix ixx (GE.of_pure (gp_var (pv 2))) (ge_callU c__law_lot hr (by decide) rfl rfl rfl mono__law_lot (pv 0) (gd_cons (GE.of_pure gp_int) gd_nil)) (fun _ _ => rfl))))
      gss_nil)
      (gss_one (gs_ret (ge_join (GE.of_pure gp_str) (ge_lcR (own := [("k", 3)]) (t := .name 3) rfl sc__law_named.nd (gi_r1 rfl T.z_range (GD.ga (gd_cons (ge_op opx_add (GE.of_pure gp_int) (ge_callU c__law_lot hr (by decide) rfl rfl rfl mono__law_lot (pv 0) (gd_cons (GE.of_pure gp_int) gd_nil))) gd_nil))) (blkOk_by (own := [("k", 3)]) (N := ["urn", "letters", "some", "k"]) (sc := defScope s__law_named) (by decide +kernel)) (fun _ _ _ _ _ => (pg_name (i := 3) sc__law_named.nd rfl (Or.inl rfl))) (fun _ _ _ _ _ => (ge_ix ixx (GE.of_pure (gp_var (pv 1))) (ge_callU c__law_lot hr (by decide) rfl rfl rfl mono__law_lot (pv 0) (gd_cons (GE.of_pure gp_int) gd_nil)) (fun _ _ => rfl))) (by decide) (mem1 rfl) (mem1 (Nat.le_of_ble_eq_true rfl))))))))), fun o ds Q ⟨n, h, u, hn, q⟩ => ?_⟩
  subst h
  refine x_start (e := [some (.own o), none, none, none]) rfl ?_
  walk_at "x"
  intro a o1 a0 a1 u1
  walk_at "x"
  dsimp only [List.set_cons_zero]
  walk_at "x"
  refine x_iteD (fun ha => ?_) (fun ha => ?_)
  · walk_at "x"
    intro a2 o2 a20 a21 u2
    walk_at "x"
    refine x_ixM (by omega) (by simp only [List.length_cons, List.length_nil]; omega) fun d hd => ?_
    obtain ⟨x, rfl, hx⟩ := nmD_is (all_memD (by decide +kernel) hd)
    walk_at "x"
    exact q _ _ ⟨x, rfl, hx⟩ (u2.mono (by omega))
  · walk_at "x"
    intro a2 o2 a20 a21 u2
    walk_at "x"
    refine ⟨by rw [List.length_map, List.length_range]; omega, fun i acc e => ∃ (o' : O) (l : List Nat) (x3 : Option Sl), Un o' (n + 2 + i) ∧ acc = l.map (fun c => D.str ⟨#[c]⟩) ∧ l.length = i ∧ (∀ c ∈ l, 97 ≤ c ∧ c ≤ 122) ∧ e = [some (.own o'), some (.f (.str "abcdefghijklmnopqrstuvwxyz")), some (.f (.lst [.str "a", .str "b", .str "ann", .str "hall", .str "room", .str "of", .str "holds", .str "none", .str "look", .str "set", .str "on", .str "under", .str "zzzzzzzz"])), none].set 3 x3, ⟨o2, [], none, u2, rfl, rfl, by simp, rfl⟩, ?_, ?_⟩
    · rintro i d acc e hd ⟨o', l, x3, u', rfl, hl, hc, rfl⟩
      obtain ⟨hi, rfl⟩ := rng_at hd
      refine ⟨_, rfl, ?_⟩
      dsimp only [List.map_cons, List.map_nil, wipeE, setE, Tgt.js, List.set_cons_zero, List.set_cons_succ]
      walk_at "x"
      intro a3 o3 a30 a31 u3
      walk_at "x"
      refine x_ixSM (Nat.le_of_ble_eq_true rfl) (by omega) (Int.lt_of_lt_of_le a31 (by decide +kernel)) fun c hc2 => ?_
      refine ⟨_, rfl, o3, l ++ [c], _, u3.mono (by omega), by rw [List.map_append] <;> rfl, by rw [List.length_append, hl]; rfl, fun d hd2 => ?_, rfl⟩
      rcases List.mem_append.mp hd2 with z | z
      · exact hc d z
      · rw [List.mem_singleton.mp z]
        exact letters_ok hc2
    · rintro acc e ⟨o', l, x3, u', rfl, hl, hc, rfl⟩
      rw [List.length_map, List.length_range] at hl u'
      refine ⟨_, l.map fun c => ⟨#[c]⟩, .inl rfl, (ones_D l).symm, ?_, ?_⟩
      · rw [ones_sum, List.length_map]
        show l.length + l.length * 0 ≤ 16777216
        omega
      · refine ⟨nofun, Nat.le_of_ble_eq_true rfl, o', rfl, q _ _ ⟨_, rfl, ?_⟩ (u'.mono (by omega))⟩
        exact nm_join (ones_tl l) (by rw [List.length_map]; omega) (by rw [List.length_map]; omega) hc

/-! words and parts in turn -/
def fmtT : D → Str
  | .str y => y
  | .int i => toString i
  | _ => ""
def fmtOk : D → Prop
  | .str y => y.length ≤ 640
  | .int i => i.natAbs.log2 < 1920
  | _ => False
def pairT (w : Str) (p : D) : Str := ((Str.empty ++ w) ++ " ") ++ fmtT p
def wPairs : WFn := fun ds Q => ∃ (ws : List Str) (ps : List D), ds = [.tup (ws.map D.str), .tup ps] ∧ ws.length = ps.length ∧ ws.length ≤ 20 ∧ (∀ w ∈ ws, w.length ≤ 20) ∧ (∀ p ∈ ps, fmtOk p) ∧ Q (.f (.str (Txt.join " " (List.zipWith pairT ws ps))))
theorem len_app (a b : Str) : (a ++ b).length = a.length + b.length := by
  show (a.cps ++ b.cps).size = _
  rw [Array.size_append]
  rfl
theorem int_len {i : Int} (h : i.natAbs.log2 < 1920) : ((toString i : String) : Str).length ≤ 2000 := by
  have a := int_text_length_le (k := 1920) (by decide) h
  rw [PySem.ofString_length]
  omega
theorem fmt_len {p : D} (h : fmtOk p) : (fmtT p).length ≤ 2000 := by
  cases p with
  | str y => exact Nat.le_trans h (by decide)
  | int i => exact int_len h
  | _ => exact h.elim
theorem pair_len {y : Str} {p : D} (h : y.length ≤ 20) (hp : fmtOk p) : (pairT y p).length ≤ 2100 := by
  have a := fmt_len hp
  unfold pairT
  rw [len_app, len_app, len_app, show Str.empty.length = 0 from rfl, show (Str.ofString " ").length = 1 by decide +kernel]
  omega
theorem sum_len {m : Nat} : ∀ {l : List Str}, (∀ x ∈ l, x.length ≤ m) → (l.map (·.length)).sum ≤ l.length * m
  | [], _ => Nat.zero_le _
  | x :: l, h => by
    rw [List.map_cons, List.sum_cons, List.length_cons, Nat.succ_mul]
    have a := h x (List.mem_cons_self ..)
    have b := sum_len fun y hy => h y (List.mem_cons_of_mem x hy)
    omega
theorem x_fmtA {p : D} {q : Str → Prop} (h : fmtOk p) (k : q (fmtT p)) : dFmt p q := by
  cases p with
  | str y => exact ⟨Nat.le_trans h (Nat.le_of_ble_eq_true rfl), k⟩
  | int i => exact ⟨h, k⟩
  | _ => exact h.elim
theorem sz_small {n m : Nat} (h : n ≤ m) (hm : m ≤ 1000000) : n ≤ sizeLine := by
  rw [sizeLine_eq]
  omega
theorem mono__show_pairs : MonoF wPairs := fun ds Q Q' i ⟨a, b, h, h1, h2, h3, h4, q⟩ => ⟨a, b, h, h1, h2, h3, h4, i _ q⟩
theorem ok_pairs (T : Txt K mg) (A : At K mg "_show_pairs" s__show_pairs ["words", "parts"]) : Cal P w K mg base 1 "_show_pairs" (spW K tabs (liftF wPairs)) := by
  refine A.of fun f fd F => fx_fnF F sc__show_pairs (fun ds Q ⟨_, _, h, _⟩ => by rw [h]; rfl) fun cdv A outer s H E TT P0 σ0 hcd hr => ⟨_, (gss_one (gs_ret (ge_join (GE.of_pure gp_str) (ge_lcR (own := [("word", 2), ("part", 3)]) (t := .tup [2, 3]) rfl sc__show_pairs.nd (gi_zip rfl T.z_zip (GD.ga (gd_cons (GE.of_pure (gp_var (pv 0))) (gd_cons (GE.of_pure (gp_var (pv 1))) gd_nil)))) (blkOk_by (own := [("word", 2), ("part", 3)]) (N := ["words", "parts", "word", "part"]) (sc := defScope s__show_pairs) (by decide +kernel)) (fun _ _ _ _ _ => (pg_tup rfl (pgs_cons (pg_name (i := 2) sc__show_pairs.nd rfl (Or.inl rfl)) (pgs_cons (pg_name (i := 3) sc__show_pairs.nd rfl (Or.inl rfl)) pgs_nil)))) (fun _ _ _ _ _ => (ge_joined (GJ.cons (ge_fmt (GE.of_pure (gp_var (pv 2)))) (GJ.cons (GE.of_pure gp_str) (GJ.cons (ge_fmt (GE.of_pure (gp_var (pv 3)))) GJ.nil))))) (by decide) (mem2 rfl rfl) (mem2 (Nat.le_of_ble_eq_true rfl) (Nat.le_of_ble_eq_true rfl)))))), fun ds Q ⟨ws, ps, h, hl, h20, hw, hp, k⟩ => ?_⟩
  subst h
  refine x_start (e := [some (.f (.tup (ws.map D.str))), some (.f (.tup ps)), none, none]) rfl ?_
  walk_at "x"
  have hz : (List.zipWith pairT ws ps).length = ws.length := by rw [List.length_zipWith, hl, Nat.min_self]
  refine ⟨by rw [List.length_zipWith, List.length_map, hl, Nat.min_self]; omega, fun i acc e => acc = ((List.zipWith pairT ws ps).take i).map D.str ∧ ∃ x2 x3, e = [some (.f (.tup (ws.map D.str))), some (.f (.tup ps)), x2, x3], ⟨rfl, none, none, rfl⟩, ?_, ?_⟩
  · rintro i d acc e hd ⟨rfl, x2, x3, rfl⟩
    obtain ⟨x, p, h1, h2, rfl⟩ := zip_at hd
    rw [List.getElem?_map] at h1
    cases hx : ws[i]? with
    | none => rw [hx] at h1; cases h1
    | some y =>
      rw [hx] at h1
      cases h1
      have hy := hw y (List.mem_of_getElem? hx)
      have hp2 := hp p (List.mem_of_getElem? h2)
      refine ⟨_, rfl, ?_⟩
      dsimp only [List.map_cons, List.map_nil, wipeE, setE, Tgt.js, List.set_cons_zero, List.set_cons_succ]
      walk_at "x"
      have hl2 := pair_len hy hp2
      unfold pairT at hl2
      have hl3 := hl2
      rw [len_app] at hl3
      have hl4 := hl3
      rw [len_app] at hl4
      refine x_fmtS (sz_small hy (by decide)) ?_
      walk_at "x"
      refine ⟨sz_small (m := 2100) (by omega) (by decide), ?_⟩
      walk_at "x"
      refine ⟨sz_small (m := 2100) (by omega) (by decide), ?_⟩
      walk_at "x"
      refine x_fmtA hp2 ?_
      walk_at "x"
      refine ⟨sz_small hl2 (by decide), ?_⟩
      walk_at "x"
      refine ⟨?_, _, _, rfl⟩
      rw [take_snoc (x := pairT y p) (by rw [List.getElem?_zipWith, hx, h2]), List.map_append]
      rfl
  · rintro acc e ⟨rfl, x2, x3, rfl⟩
    rw [List.length_zipWith, List.length_map, hl, Nat.min_self, ← hl, ← hz, List.take_length]
    have hm : ∀ x ∈ List.zipWith pairT ws ps, x.length ≤ 2100 := fun x hx => by
      obtain ⟨i, hi⟩ := List.getElem?_of_mem hx
      obtain ⟨y, p, h1, h2, rfl⟩ := zip_at hi
      exact pair_len (hw y (List.mem_of_getElem? h1)) (hp p (List.mem_of_getElem? h2))
    have hs := sum_len hm
    rw [hz] at hs
    refine ⟨_, _, .inl rfl, rfl, ?_, nofun, Nat.le_of_ble_eq_true rfl, k⟩
    rw [hz, show (Str.ofString " ").length = 1 by decide +kernel]
    omega

end
end K04

namespace K04
open PySem PySem.Spec PyProof.Rows L2 Lk Evl Fx


local macro_rules | `(tactic| walk_at "sz") => `(tactic| first
  | exact Nat.le_of_ble_eq_true rfl
  | assumption
  | exact small_sz (Nat.le_of_ble_eq_true rfl)
  | (simp only [List.length_cons, List.length_nil, List.length_map, List.length_append]; first | omega | exact small_sz (by omega)))
local macro_rules | `(tactic| walk_at "x1") => `(tactic| first
  | with_reducible refine x_seq ?_
  | (with_reducible show wVar _ _ _); first | refine x_varF rfl ?_ | refine x_varO rfl ?_ | refine x_varV rfl ?_
  | with_reducible refine x_c ?_
  | with_reducible refine x_exf ?_
  | with_reducible refine x_excd ?_
  | (with_reducible show ∃ d1, Sl.cd (Sl.vw _) = some d1 ∧ _); refine x_excV rfl ?_
  | (with_reducible show ∃ d1, Sl.cd (Sl.own _) = some d1 ∧ _); refine x_excO rfl ?_
  | with_reducible refine x_binP ?_
  | with_reducible refine x_bin ?_
  | with_reducible refine x_adC ?_
  | with_reducible refine x_adN ?_
  | with_reducible refine x_lst ?_
  | with_reducible refine x_tup ?_
  | with_reducible refine x_lstO ?_
  | (with_reducible refine x_and (p := _ ≤ sizeLine) ?h ?_); (case h => walk_at "sz")
  | with_reducible refine x_callF ?_
  | (with_reducible show wCallU _ _ _ _ _); refine x_callU rfl ?_
  | with_reducible refine x_callV ?_
  | with_reducible refine x_join ?_
  | with_reducible refine x_waD ?_
  | with_reducible refine x_lc ?_
  | with_reducible refine x_lc2 ?_
  | with_reducible refine x_lenSets ?_
  | (with_reducible show wApp _ _ _ _); refine x_app rfl ?_
  | (with_reducible show wBinV _ _ _ _ _); refine x_binV rfl ?_
  | (with_reducible show wPopD _ _ _ _); refine x_popD rfl ?_
  | (with_reducible show wCatV _ _ _ _); refine x_catV rfl ?_
  | with_reducible refine x_slN2 ?_
  | with_reducible refine x_sortedSets ?_
  | with_reducible refine x_tplL ?_
  | with_reducible refine x_tplT ?_
  | with_reducible refine x_isB ?_
  | with_reducible refine x_r1 ?_
  | with_reducible refine x_r2 ?_
  | (with_reducible refine x_r1e ?h0 ?h1 ?_); (case h0 => omega); (case h1 => omega)
  | with_reducible refine x_iL ?_
  | with_reducible refine x_iT ?_
  | with_reducible refine x_iS ?_
  | with_reducible refine x_iE ?_
  | with_reducible refine x_iEe ?_
  | with_reducible refine x_yes ?_
  | with_reducible refine x_for ?_
  | (with_reducible show wLot _ [D.int _] _); (refine' x_lot (by assumption) ?h1 ?h2 ?h3 ?_); (case h1 => omega); (case h2 => first | decide | omega); (case h3 => first | decide | omega)
  | (with_reducible show ∃ o, _ = some (some (Sl.own o)) ∧ _); refine x_exO rfl ?_
  | with_reducible refine x_exo ?_
  | with_reducible refine x_ret ?_
  | with_reducible refine x_set ?_
  | with_reducible refine x_fin ?_
  | with_reducible refine x_fino ?_
  | (with_reducible refine x_and (p := _ < List.length _) ?h ?_); (case h => exact Nat.le_of_ble_eq_true rfl); (try dsimp only [List.set_cons_succ, List.set_cons_zero])
  | with_reducible refine x_next ?_
  | with_reducible refine x_retN ?_
  | with_reducible refine x_drop ?_
  | with_reducible refine x_asg ?_
  | (with_reducible refine x_gtp ?h ?_); (case h => rfl)
  | with_reducible refine x_gcons ?_
  | with_reducible refine x_gnil ?_
  | (with_reducible refine x_gn ?h ?_); (case h => exact Nat.le_of_ble_eq_true rfl); (try dsimp only [List.set_cons_succ, List.set_cons_zero])
  | with_reducible refine x_ifS ?_
  | with_reducible refine x_if ?_
  | with_reducible refine x_itT ?_
  | with_reducible refine x_itF ?_
  | with_reducible refine x_iteN ?_
  | with_reducible refine x_tru ?_
  | with_reducible refine x_tB ?_
  | with_reducible refine x_dtB ?_
  | with_reducible refine x_dtN ?_
  | with_reducible refine x_exb ?_
  | with_reducible refine x_exdb ?_
  | with_reducible refine x_tand ?_
  | with_reducible refine x_tor ?_
  | with_reducible refine x_tnot ?_
  | with_reducible refine x_and2 ?_
  | with_reducible refine x_or2 ?_
  | with_reducible refine x_not2 ?_
  | with_reducible refine x_chain ?_
  | with_reducible refine x_sub ?_
  | with_reducible refine x_addI ?_
  | (with_reducible refine x_addS ?h ?_); (case h => walk_at "sz")
  | (with_reducible refine x_addL ?h ?_); (case h => walk_at "sz")
  | (with_reducible refine x_addT ?h ?_); (case h => walk_at "sz")
  | with_reducible refine x_lt ?_
  | with_reducible refine x_le ?_
  | with_reducible refine x_gt ?_
  | with_reducible refine x_ge ?_
  | with_reducible refine x_ltS ?_
  | with_reducible refine x_eqI ?_
  | with_reducible refine x_neI ?_
  | with_reducible refine x_allSg ?_
  | with_reducible refine x_m0 ?_
  | with_reducible refine x_lstT ?_
  | with_reducible refine x_lstL ?_
  | with_reducible refine x_strB ?_
  | with_reducible refine x_strN ?_
  | with_reducible refine x_strS ?_
  | with_reducible refine x_isT ?_
  | with_reducible refine x_isI ?_
  | with_reducible refine x_neg ?_
  | with_reducible refine x_un ?_
  | (with_reducible refine x_pow ?h ?_); (case h => exact ⟨by decide, by decide +kernel⟩)
  | (with_reducible refine x_mod ?h ?_); (case h => first | decide | omega)
  | (with_reducible refine x_mul ?h ?_); (case h => exact mul_ok (by first | decide | omega) (by first | decide | omega))
  | (with_reducible refine x_div ?h ?_); (case h => exact div_ok (by first | decide | omega) (by first | decide | omega))
  | with_reducible refine x_ipA ?_
  | (with_reducible show wAugL _ _ _ _ _ _); refine x_augL rfl ?_
  | (with_reducible show wAug _ _ _ _ _); refine x_aug rfl ?_
  | (with_reducible show ∃ k' ds d, Sl.f (D.int _) = Sl.f (D.int k') ∧ _); refine x_augL1 rfl (by decide) rfl ?_
  | (with_reducible show ∃ k' j ds, Sl.f (D.int _) = Sl.f (D.int k') ∧ _ = some (some (Sl.own (O.lst ds))) ∧ ixN _ k' = some j ∧ _); refine x_setL1 rfl rfl ?_; (try dsimp only [List.set_cons_succ, List.set_cons_zero])
  | (with_reducible show ∃ ds j, _ = some (some (Sl.own (O.lst ds))) ∧ ixN _ _ = some j ∧ _); refine x_augL2 rfl rfl ?_; (try dsimp only [List.set_cons_succ, List.set_cons_zero])
  | (with_reducible show gSetL _ _ _ _ _); refine x_setL rfl ?_
  | (with_reducible show dIx (D.lst _) (D.int _) _); refine x_ixL rfl ?_
  | (with_reducible show dIx (D.tup _) (D.int _) _); refine x_ixT rfl ?_
  | with_reducible refine x_cb ?_
  | (with_reducible show wCB1 _ _ _ _); refine x_cb1 rfl rfl ?_
  | with_reducible refine x_fm ?_
  | with_reducible refine x_exl ?_
  | with_reducible refine x_ext ?_
  | with_reducible refine x_exs ?_
  | with_reducible refine x_exi ?_
  | with_reducible refine x_sl ?_
  | with_reducible refine x_slN ?_
  | with_reducible refine x_slS ?_
  | with_reducible refine x_frz ?_
  | with_reducible refine x_frL ?_
  | with_reducible refine x_revT ?_
  | with_reducible refine x_revL ?_
  | with_reducible refine x_splitO ?_
  | (with_reducible show wSlO _ _ _ _ _); refine x_slO rfl ?_
  | (with_reducible show ∃ ds2, _ = some (some (Sl.own (O.lst ds2))) ∧ _); refine x_exOl rfl ?_
  | with_reducible refine x_dictO ?_
  | with_reducible refine x_psC ?_
  | with_reducible refine x_psN ?_
  | with_reducible refine x_get ?_
  | (with_reducible show gSetSl _ _ _ _ _ _); refine x_setSl rfl ?_
  | with_reducible refine x_split ?_
  | with_reducible refine x_isN1 ?_
  | with_reducible refine x_isN0 rfl ?_
  | with_reducible refine x_iZ ?_
  | with_reducible refine x_zT ?_
  | with_reducible refine x_zL ?_
  | with_reducible refine x_stp ?_
  | with_reducible refine x_js ?_
  | with_reducible refine x_jsC ?_
  | with_reducible refine x_jsN ?_
  | with_reducible refine x_fmt ?_
  | with_reducible refine x_callFX ?_
  | (with_reducible refine x_glp ?h ?_); (case h => rfl)
  | with_reducible refine x_raiseR ?_
  | with_reducible refine x_row ?_
  | with_reducible refine x_lenL ?_
  | with_reducible refine x_lenT ?_
  | with_reducible refine x_lenD ?_
  | (with_reducible refine x_lenS ?h ?_); (case h => walk_at "sz")
  | with_reducible refine x_max ?_
  | with_reducible refine x_min ?_
  | with_reducible refine x_intI ?_
  | with_reducible refine x_intB ?_
  | (with_reducible refine x_isInt ?h ?_); (case h => first | assumption | exact part_ty (by assumption) | (intro _ hh; cases hh; done))
  | (with_reducible refine x_isBl ?h ?_); (case h => first | assumption | exact part_ty (by assumption) | (intro _ hh; cases hh; done))
  | (with_reducible refine x_isStr ?h ?_); (case h => first | assumption | exact part_ty (by assumption) | (intro _ hh; cases hh; done))
  | (with_reducible refine x_isTup ?h ?_); (case h => first | assumption | exact part_ty (by assumption) | (intro _ hh; cases hh; done))
  | (with_reducible refine x_isLst ?h ?_); (case h => first | assumption | exact part_ty (by assumption) | (intro _ hh; cases hh; done))
  | (with_reducible refine x_isDic ?h ?_); (case h => first | assumption | exact part_ty (by assumption) | (intro _ hh; cases hh; done))
  | (with_reducible refine x_itTe ?e ?_); (case e => rfl)
  | (with_reducible refine x_itFe ?e ?_); (case e => rfl)
  | ((with_reducible show _ ∧ _); refine And.intro (Nat.le_of_ble_eq_true rfl) ?_))
local macro_rules | `(tactic| walk_at "x") => `(tactic| repeat (walk_at "x1"))

section
variable {P : Program} {w : World} {K : PySem.W.Frag} {mg : Str → Option Value} {base : Heap} {tabs : List Addr}
/-! ### rooms by chance -/
local macro_rules | `(tactic| walk_at "x1") => `(tactic| first
  | with_reducible refine x_dnewO ?_
  | with_reducible refine x_dput ?_
  | with_reducible refine x_dix ?_
  | with_reducible refine x_sortedD ?_
  | with_reducible refine x_star ?_
  | with_reducible refine x_starT ?_
  | with_reducible refine x_frzD ?_)
def wWorth : WUn := wDraw 3 fun r => ∃ i : Int, r = .f (.int i) ∧ i.natAbs ≤ 1000000000
theorem mono__law_worth : MonoU2 wWorth := mono_draw
theorem ok_worth (T : Txt K mg) (c__law_lot : Cal P w K mg base 1 "_law_lot" (spW K tabs (liftU wLot))) (A : At K mg "_law_worth" s__law_worth ["urn"]) : Cal P w K mg base 2 "_law_worth" (spW K tabs (liftU wWorth)) := by
  refine A.of fun f fd F => fx_fnU F sc__law_worth (fun o ds Q ⟨n, h, _⟩ => by rw [h]; rfl) fun cdv A outer s H E TT P0 σ0 hcd hr => ⟨_, (gss_cons (gs_setE (i := 1) sc__law_worth.nd rfl (Or.inl rfl) (GE.of_pure gp_int))
      (gss_one (gs_ret (ge_ix ixx (ge_lstD (gd_cons (GE.of_pure gp_int) (gd_cons (GE.of_pure gp_int) (gd_cons (ge_un unx_neg (GE.of_pure gp_int)) (gd_cons (GE.of_pure (gp_var (pv 1))) (gd_cons (GE.of_pure (gp_op opx_sub gp_int (gp_var (pv 1)))) (gd_cons (ge_callU c__law_lot hr (by decide) rfl rfl rfl mono__law_lot (pv 0) (gd_cons (GE.of_pure (gp_op opx_pow gp_int gp_int)) gd_nil)) (gd_cons (ge_op opx_sub (GE.of_pure gp_int) (ge_callU c__law_lot hr (by decide) rfl rfl rfl mono__law_lot (pv 0) (gd_cons (GE.of_pure gp_int) gd_nil))) gd_nil)))))))) (ge_callU c__law_lot hr (by decide) rfl rfl rfl mono__law_lot (pv 0) (gd_cons (GE.of_pure gp_int) gd_nil)) (fun _ _ => rfl))))), fun o ds Q ⟨n, h, u, hn, q⟩ => ?_⟩
  subst h
  refine x_start (e := [some (.own o), none]) rfl ?_
  walk_at "x"
  have e9 : (10 : Int) ^ Int.toNat 9 = 1000000000 := by decide
  rw [e9]
  intro k1 o1 a0 a1 u1
  walk_at "x"
  dsimp only [List.set_cons_zero]
  walk_at "x"
  intro k2 o2 b0 b1 u2
  walk_at "x"
  dsimp only [List.set_cons_zero]
  walk_at "x"
  intro k3 o3 c0 c1 u3
  walk_at "x"
  refine x_ixM c0 (show k3 < ((7 : Nat) : Int) from c1) fun d hd => ?_
  have h : ∃ i : Int, d = .int i ∧ i.natAbs ≤ 1000000000 := by
    simp only [List.mem_cons, List.not_mem_nil, or_false] at hd
    rcases hd with rfl | rfl | rfl | rfl | rfl | rfl | rfl <;> exact ⟨_, rfl, by omega⟩
  obtain ⟨i, rfl, hi⟩ := h
  walk_at "x"
  exact q _ _ ⟨i, rfl, hi⟩ u3
def RoomOk (p : Key × D) : Prop := ∃ (x o : Str) (i : Int), p = (.inr x, .tup [.str o, .int i]) ∧ IsNm x ∧ IsNm o ∧ i.natAbs ≤ 1000000000
structure RoomsOk (l : List (Key × D)) (n : Nat) : Prop where
  nd : (l.map (·.1)).Nodup
  len : l.length ≤ n
  ok : ∀ p ∈ l, RoomOk p
theorem mem_putP {l : List (Key × D)} {k : Key} {d : D} {p : Key × D} (h : p ∈ putP l k d) : p = (k, d) ∨ p ∈ l := by
  unfold putP at h
  split at h
  · obtain ⟨q, hq, rfl⟩ := List.mem_map.mp h
    by_cases e : q.1 = k
    · rw [if_pos e, e]
      exact .inl rfl
    · rw [if_neg e]
      exact .inr hq
  · rcases List.mem_append.mp h with h | h
    · exact .inr h
    · exact .inl (List.mem_singleton.mp h)
theorem RoomsOk.put {l : List (Key × D)} {n : Nat} {x : Str} {d : D} (h : RoomsOk l n) (r : RoomOk (.inr x, d)) : RoomsOk (putP l (.inr x) d) (n + 1) := by
  refine ⟨?_, ?_, fun p hp => ?_⟩
  · unfold putP
    split
    · have e : (l.map fun kv => if kv.1 = (Sum.inr x : Key) then (kv.1, d) else kv).map (·.1) = l.map (·.1) := by
        rw [List.map_map]
        refine List.map_congr_left fun kv _ => ?_
        show (if kv.1 = (Sum.inr x : Key) then (kv.1, d) else kv).1 = kv.1
        split <;> rfl
      rw [e]
      exact h.nd
    · rename_i c
      rw [List.map_append, List.nodup_append]
      refine ⟨h.nd, by simp, fun a ha b hb => ?_⟩
      obtain ⟨kv, m, rfl⟩ := List.mem_map.mp ha
      have hb : b = (Sum.inr x : Key) := by simpa using hb
      subst hb
      exact fun e => c (List.any_eq_true.mpr ⟨kv, m, decide_eq_true e⟩)
  · unfold putP
    have := h.len
    split
    · rw [List.length_map]; omega
    · rw [List.length_append, List.length_singleton]; omega
  · rcases mem_putP hp with rfl | hp
    · exact r
    · exact h.ok p hp
def wRooms : WUn := wDraw 110 fun r => ∃ l, r = .f (dicD l) ∧ RoomsOk l 4
theorem mono__law_rooms : MonoU2 wRooms := mono_draw
theorem ok_rooms (T : Txt K mg) (c__law_lot : Cal P w K mg base 1 "_law_lot" (spW K tabs (liftU wLot))) (c__law_named : Cal P w K mg base 2 "_law_named" (spW K tabs (liftU wNamed))) (c__law_worth : Cal P w K mg base 2 "_law_worth" (spW K tabs (liftU wWorth))) (A : At K mg "_law_rooms" s__law_rooms ["urn"]) : Cal P w K mg base 3 "_law_rooms" (spW K tabs (liftU wRooms)) := by
  refine A.of fun f fd F => fx_fnU F sc__law_rooms (fun o ds Q ⟨n, h, _⟩ => by rw [h]; rfl) fun cdv A outer s H E TT P0 σ0 hcd hr => ⟨_, (gss_cons (gs_setE (i := 1) sc__law_rooms.nd rfl (Or.inl rfl) ge_dnewO)
      (gss_cons (gs_for PassesOwn.never rfl (gi_r1 rfl T.z_range (GD.ga (gd_cons (ge_op opx_add (GE.of_pure gp_int) (ge_callU c__law_lot hr (by decide) rfl rfl rfl mono__law_lot (pv 0) (gd_cons (GE.of_pure gp_int) gd_nil))) gd_nil))) (gg_name (pg_name (i := 2) sc__law_rooms.nd rfl (Or.inl rfl)) rfl)
      (gss_one (gs_dput (u1 hr) (pv 1) (ge_callU c__law_named hr (by decide) rfl rfl rfl mono__law_named (pv 0) gd_nil) (ge_tupD (gd_cons (ge_callU c__law_named hr (by decide) rfl rfl rfl mono__law_named (pv 0) gd_nil) (gd_cons (ge_callU c__law_worth hr (by decide) rfl rfl rfl mono__law_worth (pv 0) gd_nil) gd_nil))))))
      (gss_one (gs_ret (ge_move (pv 1)))))), fun o ds Q ⟨n, h, u, hn, q⟩ => ?_⟩
  subst h
  refine x_start (e := [some (.own o), none, none]) rfl ?_
  walk_at "x"
  intro k1 o1 a0 a1 u1
  walk_at "x"
  dsimp only [List.set_cons_zero]
  walk_at "x"
  refine ⟨fun i e => ∃ o' l x2, e = [some (.own o'), some (.own (dicO l)), x2] ∧ Un o' (n + 1 + 25 * i) ∧ RoomsOk l i, ⟨o1, [], none, rfl, u1, ⟨List.nodup_nil, Nat.le_refl _, nofun⟩⟩, ?_, ?_⟩
  · rintro i d e hd ⟨o', l, x2, rfl, u', rk⟩
    obtain ⟨hi, rfl⟩ := rng_at hd
    walk_at "x"
    refine ⟨_, rfl, u', by omega, fun r2 o2 h2 u2 => ?_⟩
    obtain ⟨x, rfl, hx⟩ := h2
    walk_at "x"
    dsimp only [List.set_cons_zero]
    walk_at "x"
    refine ⟨_, rfl, u2, by omega, fun r3 o3 h3 u3 => ?_⟩
    obtain ⟨j, rfl, hj⟩ := h3
    walk_at "x"
    refine x_dput1 rfl ?_
    walk_at "x"
    refine ⟨_, rfl, u3, by omega, fun r4 o4 h4 u4 => ?_⟩
    obtain ⟨y, rfl, hy⟩ := h4
    walk_at "x"
    refine ⟨.inr y, l, rfl, rfl, Nat.le_trans rk.len (by omega), ?_⟩
    exact ⟨o4, _, _, rfl, u4.mono (by omega), rk.put ⟨y, x, j, rfl, hy, hx, hj⟩⟩
  rintro e ⟨o', l, x2, rfl, u', rk⟩
  rw [List.length_map, List.length_range] at u' rk
  walk_at "x"
  refine ⟨_, _, rfl, cd_dicO l, ?_⟩
  walk_at "x"
  exact q _ _ ⟨l, rfl, ⟨rk.nd, Nat.le_trans rk.len (by omega), rk.ok⟩⟩ (u'.mono (by omega))

end
end K04

namespace K04
open PySem PySem.Spec PyProof.Rows L2 Lk Evl Fx


local macro_rules | `(tactic| walk_at "sz") => `(tactic| first
  | exact Nat.le_of_ble_eq_true rfl
  | assumption
  | exact small_sz (Nat.le_of_ble_eq_true rfl)
  | (simp only [List.length_cons, List.length_nil, List.length_map, List.length_append]; first | omega | exact small_sz (by omega)))
local macro_rules | `(tactic| walk_at "x1") => `(tactic| first
  | with_reducible refine x_seq ?_
  | (with_reducible show wVar _ _ _); first | refine x_varF rfl ?_ | refine x_varO rfl ?_ | refine x_varV rfl ?_
  | with_reducible refine x_c ?_
  | with_reducible refine x_exf ?_
  | with_reducible refine x_excd ?_
  | (with_reducible show ∃ d1, Sl.cd (Sl.vw _) = some d1 ∧ _); refine x_excV rfl ?_
  | (with_reducible show ∃ d1, Sl.cd (Sl.own _) = some d1 ∧ _); refine x_excO rfl ?_
  | with_reducible refine x_binP ?_
  | with_reducible refine x_bin ?_
  | with_reducible refine x_adC ?_
  | with_reducible refine x_adN ?_
  | with_reducible refine x_lst ?_
  | with_reducible refine x_tup ?_
  | with_reducible refine x_lstO ?_
  | (with_reducible refine x_and (p := _ ≤ sizeLine) ?h ?_); (case h => walk_at "sz")
  | with_reducible refine x_callF ?_
  | (with_reducible show wCallU _ _ _ _ _); refine x_callU rfl ?_
  | with_reducible refine x_callV ?_
  | with_reducible refine x_join ?_
  | with_reducible refine x_waD ?_
  | with_reducible refine x_lc ?_
  | with_reducible refine x_lc2 ?_
  | with_reducible refine x_lenSets ?_
  | (with_reducible show wApp _ _ _ _); refine x_app rfl ?_
  | (with_reducible show wBinV _ _ _ _ _); refine x_binV rfl ?_
  | (with_reducible show wPopD _ _ _ _); refine x_popD rfl ?_
  | (with_reducible show wCatV _ _ _ _); refine x_catV rfl ?_
  | with_reducible refine x_slN2 ?_
  | with_reducible refine x_sortedSets ?_
  | with_reducible refine x_tplL ?_
  | with_reducible refine x_tplT ?_
  | with_reducible refine x_isB ?_
  | with_reducible refine x_r1 ?_
  | with_reducible refine x_r2 ?_
  | (with_reducible refine x_r1e ?h0 ?h1 ?_); (case h0 => omega); (case h1 => omega)
  | with_reducible refine x_iL ?_
  | with_reducible refine x_iT ?_
  | with_reducible refine x_iS ?_
  | with_reducible refine x_iE ?_
  | with_reducible refine x_iEe ?_
  | with_reducible refine x_yes ?_
  | with_reducible refine x_for ?_
  | (with_reducible show wLot _ [D.int _] _); (refine' x_lot (by assumption) ?h1 ?h2 ?h3 ?_); (case h1 => omega); (case h2 => first | decide | omega); (case h3 => first | decide | omega)
  | (with_reducible show ∃ o, _ = some (some (Sl.own o)) ∧ _); refine x_exO rfl ?_
  | with_reducible refine x_exo ?_
  | with_reducible refine x_ret ?_
  | with_reducible refine x_set ?_
  | with_reducible refine x_fin ?_
  | with_reducible refine x_fino ?_
  | (with_reducible refine x_and (p := _ < List.length _) ?h ?_); (case h => exact Nat.le_of_ble_eq_true rfl); (try dsimp only [List.set_cons_succ, List.set_cons_zero])
  | with_reducible refine x_next ?_
  | with_reducible refine x_retN ?_
  | with_reducible refine x_drop ?_
  | with_reducible refine x_asg ?_
  | (with_reducible refine x_gtp ?h ?_); (case h => rfl)
  | with_reducible refine x_gcons ?_
  | with_reducible refine x_gnil ?_
  | (with_reducible refine x_gn ?h ?_); (case h => exact Nat.le_of_ble_eq_true rfl); (try dsimp only [List.set_cons_succ, List.set_cons_zero])
  | with_reducible refine x_ifS ?_
  | with_reducible refine x_if ?_
  | with_reducible refine x_itT ?_
  | with_reducible refine x_itF ?_
  | with_reducible refine x_iteN ?_
  | with_reducible refine x_tru ?_
  | with_reducible refine x_tB ?_
  | with_reducible refine x_dtB ?_
  | with_reducible refine x_dtN ?_
  | with_reducible refine x_exb ?_
  | with_reducible refine x_exdb ?_
  | with_reducible refine x_tand ?_
  | with_reducible refine x_tor ?_
  | with_reducible refine x_tnot ?_
  | with_reducible refine x_and2 ?_
  | with_reducible refine x_or2 ?_
  | with_reducible refine x_not2 ?_
  | with_reducible refine x_chain ?_
  | with_reducible refine x_sub ?_
  | with_reducible refine x_addI ?_
  | (with_reducible refine x_addS ?h ?_); (case h => walk_at "sz")
  | (with_reducible refine x_addL ?h ?_); (case h => walk_at "sz")
  | (with_reducible refine x_addT ?h ?_); (case h => walk_at "sz")
  | with_reducible refine x_lt ?_
  | with_reducible refine x_le ?_
  | with_reducible refine x_gt ?_
  | with_reducible refine x_ge ?_
  | with_reducible refine x_ltS ?_
  | with_reducible refine x_eqI ?_
  | with_reducible refine x_neI ?_
  | with_reducible refine x_allSg ?_
  | with_reducible refine x_m0 ?_
  | with_reducible refine x_lstT ?_
  | with_reducible refine x_lstL ?_
  | with_reducible refine x_strB ?_
  | with_reducible refine x_strN ?_
  | with_reducible refine x_strS ?_
  | with_reducible refine x_isT ?_
  | with_reducible refine x_isI ?_
  | with_reducible refine x_neg ?_
  | with_reducible refine x_un ?_
  | (with_reducible refine x_pow ?h ?_); (case h => exact ⟨by decide, by decide +kernel⟩)
  | (with_reducible refine x_mod ?h ?_); (case h => first | decide | omega)
  | (with_reducible refine x_mul ?h ?_); (case h => exact mul_ok (by first | decide | omega) (by first | decide | omega))
  | (with_reducible refine x_div ?h ?_); (case h => exact div_ok (by first | decide | omega) (by first | decide | omega))
  | with_reducible refine x_ipA ?_
  | (with_reducible show wAugL _ _ _ _ _ _); refine x_augL rfl ?_
  | (with_reducible show wAug _ _ _ _ _); refine x_aug rfl ?_
  | (with_reducible show ∃ k' ds d, Sl.f (D.int _) = Sl.f (D.int k') ∧ _); refine x_augL1 rfl (by decide) rfl ?_
  | (with_reducible show ∃ k' j ds, Sl.f (D.int _) = Sl.f (D.int k') ∧ _ = some (some (Sl.own (O.lst ds))) ∧ ixN _ k' = some j ∧ _); refine x_setL1 rfl rfl ?_; (try dsimp only [List.set_cons_succ, List.set_cons_zero])
  | (with_reducible show ∃ ds j, _ = some (some (Sl.own (O.lst ds))) ∧ ixN _ _ = some j ∧ _); refine x_augL2 rfl rfl ?_; (try dsimp only [List.set_cons_succ, List.set_cons_zero])
  | (with_reducible show gSetL _ _ _ _ _); refine x_setL rfl ?_
  | (with_reducible show dIx (D.lst _) (D.int _) _); refine x_ixL rfl ?_
  | (with_reducible show dIx (D.tup _) (D.int _) _); refine x_ixT rfl ?_
  | with_reducible refine x_cb ?_
  | (with_reducible show wCB1 _ _ _ _); refine x_cb1 rfl rfl ?_
  | with_reducible refine x_fm ?_
  | with_reducible refine x_exl ?_
  | with_reducible refine x_ext ?_
  | with_reducible refine x_exs ?_
  | with_reducible refine x_exi ?_
  | with_reducible refine x_sl ?_
  | with_reducible refine x_slN ?_
  | with_reducible refine x_slS ?_
  | with_reducible refine x_frz ?_
  | with_reducible refine x_frL ?_
  | with_reducible refine x_revT ?_
  | with_reducible refine x_revL ?_
  | with_reducible refine x_splitO ?_
  | (with_reducible show wSlO _ _ _ _ _); refine x_slO rfl ?_
  | (with_reducible show ∃ ds2, _ = some (some (Sl.own (O.lst ds2))) ∧ _); refine x_exOl rfl ?_
  | with_reducible refine x_dictO ?_
  | with_reducible refine x_psC ?_
  | with_reducible refine x_psN ?_
  | with_reducible refine x_get ?_
  | (with_reducible show gSetSl _ _ _ _ _ _); refine x_setSl rfl ?_
  | with_reducible refine x_split ?_
  | with_reducible refine x_isN1 ?_
  | with_reducible refine x_isN0 rfl ?_
  | with_reducible refine x_iZ ?_
  | with_reducible refine x_zT ?_
  | with_reducible refine x_zL ?_
  | with_reducible refine x_stp ?_
  | with_reducible refine x_js ?_
  | with_reducible refine x_jsC ?_
  | with_reducible refine x_jsN ?_
  | with_reducible refine x_fmt ?_
  | with_reducible refine x_callFX ?_
  | (with_reducible refine x_glp ?h ?_); (case h => rfl)
  | with_reducible refine x_raiseR ?_
  | with_reducible refine x_row ?_
  | with_reducible refine x_lenL ?_
  | with_reducible refine x_lenT ?_
  | with_reducible refine x_lenD ?_
  | (with_reducible refine x_lenS ?h ?_); (case h => walk_at "sz")
  | with_reducible refine x_max ?_
  | with_reducible refine x_min ?_
  | with_reducible refine x_intI ?_
  | with_reducible refine x_intB ?_
  | (with_reducible refine x_isInt ?h ?_); (case h => first | assumption | exact part_ty (by assumption) | (intro _ hh; cases hh; done))
  | (with_reducible refine x_isBl ?h ?_); (case h => first | assumption | exact part_ty (by assumption) | (intro _ hh; cases hh; done))
  | (with_reducible refine x_isStr ?h ?_); (case h => first | assumption | exact part_ty (by assumption) | (intro _ hh; cases hh; done))
  | (with_reducible refine x_isTup ?h ?_); (case h => first | assumption | exact part_ty (by assumption) | (intro _ hh; cases hh; done))
  | (with_reducible refine x_isLst ?h ?_); (case h => first | assumption | exact part_ty (by assumption) | (intro _ hh; cases hh; done))
  | (with_reducible refine x_isDic ?h ?_); (case h => first | assumption | exact part_ty (by assumption) | (intro _ hh; cases hh; done))
  | (with_reducible refine x_itTe ?e ?_); (case e => rfl)
  | (with_reducible refine x_itFe ?e ?_); (case e => rfl)
  | ((with_reducible show _ ∧ _); refine And.intro (Nat.le_of_ble_eq_true rfl) ?_))
local macro_rules | `(tactic| walk_at "x") => `(tactic| repeat (walk_at "x1"))

section
variable {P : Program} {w : World} {K : PySem.W.Frag} {mg : Str → Option Value} {base : Heap} {tabs : List Addr}
/-! ### rooms written -/
local macro_rules | `(tactic| walk_at "x1") => `(tactic| first
  | with_reducible refine x_dnewO ?_
  | with_reducible refine x_dput ?_
  | with_reducible refine x_dix ?_
  | with_reducible refine x_sortedD ?_
  | with_reducible refine x_star ?_
  | with_reducible refine x_starT ?_
  | with_reducible refine x_frzD ?_)
def roomT (x o : Str) (i : Int) : Str := Txt.join " " (List.zipWith pairT ["room", "of", "holds"] [.str x, .str o, .int i])
def wShowRoom : WFn := fun ds Q => ∃ (x o : Str) (i : Int), ds = [.str x, .tup [.str o, .int i]] ∧ x.length ≤ 640 ∧ o.length ≤ 640 ∧ i.natAbs.log2 < 1920 ∧ Q (.f (.str (roomT x o i)))
theorem mono__show_room : MonoF wShowRoom := fun ds Q Q' i ⟨x, o, n, h, h1, h2, h3, q⟩ => ⟨x, o, n, h, h1, h2, h3, i _ q⟩
theorem ok_show_room (T : Txt K mg) (c__show_pairs : Cal P w K mg base 1 "_show_pairs" (spW K tabs (liftF wPairs))) (A : At K mg "_show_room" s__show_room ["name", "held"]) : Cal P w K mg base 2 "_show_room" (spW K tabs (liftF wShowRoom)) := by
  refine A.of fun f fd F => fx_fnF F sc__show_room (fun ds Q ⟨x, o, n, h, _⟩ => by rw [h]; rfl) fun cdv A outer s H E TT P0 σ0 hcd hr => ⟨_, (gss_one (gs_ret (ge_callF c__show_pairs hr (by decide) rfl rfl rfl mono__show_pairs (gd_cons (GE.of_pure (gp_k T.g_ROOM_WORDS rfl)) (gd_cons (ge_tupD (gd_cons (GE.of_pure (gp_var (pv 0))) (gd_star (GE.of_pure (gp_var (pv 1))) gd_nil))) gd_nil))))), fun ds Q ⟨x, o, n, h, h1, h2, h3, q⟩ => ?_⟩
  subst h
  refine x_start (e := [some (.f (.str x)), some (.f (.tup [.str o, .int n]))]) rfl ?_
  walk_at "x"
  refine ⟨["room", "of", "holds"], [.str x, .str o, .int n], rfl, rfl, by decide, fun w hw => ?_, fun p hp => ?_, ?_⟩
  · simp only [List.mem_cons, List.not_mem_nil, or_false] at hw
    rcases hw with rfl | rfl | rfl <;> decide +kernel
  · simp only [List.mem_cons, List.not_mem_nil, or_false] at hp
    rcases hp with rfl | rfl | rfl
    · exact h1
    · exact h2
    · exact h3
  walk_at "x"
  exact q
theorem roomT_len {x o : Str} {i : Int} (h1 : x.length ≤ 640) (h2 : o.length ≤ 640) (h3 : i.natAbs.log2 < 1920) : (roomT x o i).length ≤ 6302 := by
  have e : roomT x o i = pairT "room" (.str x) ++ " " ++ (pairT "of" (.str o) ++ " " ++ pairT "holds" (.int i)) := by unfold roomT; rw [TL.join_eq]; rfl
  have a := pair_len (y := "room") (p := .str x) (by decide +kernel) h1
  have b := pair_len (y := "of") (p := .str o) (by decide +kernel) h2
  have c := pair_len (y := "holds") (p := .int i) (by decide +kernel) h3
  have d : (Str.ofString " ").length = 1 := by decide +kernel
  rw [e, len_app, len_app, len_app, len_app]
  omega
def nmK : Key → Str
  | .inr x => x
  | .inl _ => ""
def keysT (l : List (Key × D)) : List Str := l.map fun p => nmK p.1
def rowT (l : List (Key × D)) (y : Str) : Str := match getP l (.inr y) with
  | some (.tup [.str o, .int i]) => roomT y o i ++ "\n"
  | _ => ""
theorem keys_of {l : List (Key × D)} {n : Nat} (h : RoomsOk l n) : l.map (·.1) = (keysT l).map Sum.inr := by
  unfold keysT
  rw [List.map_map]
  refine List.map_congr_left fun p hp => ?_
  obtain ⟨x, o, i, rfl, _⟩ := h.ok p hp
  rfl
theorem get_of {l : List (Key × D)} {n : Nat} (h : RoomsOk l n) {y : Str} (hy : y ∈ keysT l) : ∃ (o : Str) (i : Int), getP l (.inr y) = some (.tup [.str o, .int i]) ∧ IsNm y ∧ IsNm o ∧ i.natAbs ≤ 1000000000 ∧ rowT l y = roomT y o i ++ "\n" := by
  have key : ∀ l : List (Key × D), (∀ p ∈ l, RoomOk p) → y ∈ keysT l → ∃ (o : Str) (i : Int), getP l (.inr y) = some (.tup [.str o, .int i]) ∧ IsNm y ∧ IsNm o ∧ i.natAbs ≤ 1000000000 := by
    intro l
    induction l with
    | nil => intro _ h; cases h
    | cons p l ih =>
      intro ok hy
      obtain ⟨x, o, i, rfl, a1, a2, a3⟩ := ok p (List.mem_cons_self ..)
      by_cases e : x = y
      · subst e
        exact ⟨o, i, by simp [getP, List.find?_cons], a1, a2, a3⟩
      · have hy : y ∈ x :: keysT l := hy
        rcases List.mem_cons.mp hy with h | h
        · exact absurd h.symm e
        · obtain ⟨o', i', b1, b2⟩ := ih (fun p hp => ok p (List.mem_cons_of_mem _ hp)) h
          refine ⟨o', i', ?_, b2⟩
          rw [← b1]
          have e' : ¬ (Sum.inr x : Key) = Sum.inr y := fun z => e (Sum.inr.inj z)
          simp [getP, List.find?_cons, e]
  obtain ⟨o, i, g, a⟩ := key l h.ok hy
  exact ⟨o, i, g, a.1, a.2.1, a.2.2, by unfold rowT; rw [g]⟩
def wShowRooms : WFn := fun ds Q => ∃ l, ds = [dicD l] ∧ RoomsOk l 4 ∧ ∀ ys : List Str, ys.Perm (keysT l) → sortedS ys = true → Q (.f (.str (Txt.join "" (ys.map (rowT l)))))
theorem mono_show_rooms : MonoF wShowRooms := fun ds Q Q' i ⟨l, h, h1, q⟩ => ⟨l, h, h1, fun ys a b => i _ (q ys a b)⟩
theorem fn_show_rooms (T : Txt K mg) (c__show_room : Cal P w K mg base 2 "_show_room" (spW K tabs (liftF wShowRoom))) {f : Addr} {fd : FuncData} (F : Fun K "show_rooms" "show_rooms" s_show_rooms f fd) : FnOk P w K mg base CX0 3 f fd ["rooms"] (spW K tabs (liftF wShowRooms)) := by
  refine fx_fnF F sc_show_rooms (fun ds Q ⟨l, h, _⟩ => by rw [h]; rfl) fun cdv A outer s H E TT P0 σ0 hcd hr => ⟨_, (gss_one (gs_ret (ge_join (GE.of_pure gp_str) (ge_lcR (own := [("name", 1)]) (t := .name 1) rfl sc_show_rooms.nd (gi_list (ge_frz (ge_sortedD rfl rfl T.z_sorted (GE.of_pure (gp_var (pv 0)))))) (blkOk_by (own := [("name", 1)]) (N := ["rooms", "name"]) (sc := defScope s_show_rooms) (by decide +kernel)) (fun _ _ _ _ _ => (pg_name (i := 1) sc_show_rooms.nd rfl (Or.inl rfl))) (fun _ _ _ _ _ => (ge_op opx_add (ge_callF c__show_room hr (by decide) rfl rfl rfl mono__show_room (gd_cons (GE.of_pure (gp_var (pv 1))) (gd_cons (ge_dix (u1 hr) (GE.of_pure (gp_var (pv 0))) (GE.of_pure (gp_var (pv 1))) (fun _ _ => rfl)) gd_nil))) (GE.of_pure gp_str))) (by decide) (mem1 rfl) (mem1 (Nat.le_of_ble_eq_true rfl)))))), fun ds Q ⟨l, h, h1, q⟩ => ?_⟩
  subst h
  refine x_start (e := [some (.f (dicD l)), none]) rfl ?_
  walk_at "x"
  refine ⟨l, keysT l, rfl, keys_of h1, by unfold keysT; rw [List.length_map]; have := h1.len; omega, fun ys pm so => ?_⟩
  refine ⟨_, _, rfl, rfl, ?_⟩
  have hl : ys.length ≤ 4 := by rw [pm.length_eq]; unfold keysT; rw [List.length_map]; exact h1.len
  walk_at "x"
  refine ⟨by rw [List.length_map]; omega, fun i acc e => acc = ((ys.map (rowT l)).take i).map D.str ∧ ∃ x1, e = [some (.f (dicD l)), x1], ⟨rfl, _, rfl⟩, ?_, ?_⟩
  · rintro i d acc e hd ⟨rfl, x1, rfl⟩
    rw [List.getElem?_map] at hd
    cases hy : ys[i]? with
    | none => rw [hy] at hd; cases hd
    | some y =>
      rw [hy] at hd
      cases hd
      obtain ⟨o, n, g, a1, a2, a3, rt⟩ := get_of h1 (pm.mem_iff.mp (List.mem_of_getElem? hy))
      refine ⟨_, rfl, ?_⟩
      dsimp only [List.map_cons, List.map_nil, wipeE, setE, Tgt.js, List.set_cons_zero, List.set_cons_succ]
      walk_at "x"
      refine ⟨l, rfl, ?_⟩
      walk_at "x"
      refine ⟨.inr y, _, rfl, g, ?_⟩
      walk_at "x"
      have z1 : n.natAbs.log2 < 1920 := Nat.lt_trans (PySem.Flt.log2_lt_of (k := 250) (by decide) (by omega)) (by decide)
      have z2 : y.length ≤ 640 := Nat.le_trans a1.len.2 (by decide)
      have z3 : o.length ≤ 640 := Nat.le_trans a2.len.2 (by decide)
      refine ⟨y, o, n, rfl, z2, z3, z1, ?_⟩
      walk_at "x"
      refine ⟨sz_small (m := 6303) (by rw [show (Str.ofString "\n").length = 1 by decide +kernel]; have := roomT_len z2 z3 z1; omega) (by decide), ?_⟩
      walk_at "x"
      refine ⟨?_, _, rfl⟩
      rw [take_snoc (x := rowT l y) (by rw [List.getElem?_map, hy]; rfl), List.map_append, rt]
      rfl
  · rintro acc e ⟨rfl, x1, rfl⟩
    rw [show (ys.map D.str).length = (ys.map (rowT l)).length by rw [List.length_map, List.length_map], List.take_length]
    have hm : ∀ x ∈ ys.map (rowT l), x.length ≤ 6303 := fun x hx => by
      obtain ⟨y, hy, rfl⟩ := List.mem_map.mp hx
      obtain ⟨o, n, g, a1, a2, a3, rt⟩ := get_of h1 (pm.mem_iff.mp hy)
      have z1 : n.natAbs.log2 < 1920 := Nat.lt_trans (PySem.Flt.log2_lt_of (k := 250) (by decide) (by omega)) (by decide)
      have z2 : y.length ≤ 640 := Nat.le_trans a1.len.2 (by decide)
      have z3 : o.length ≤ 640 := Nat.le_trans a2.len.2 (by decide)
      have := roomT_len z2 z3 z1
      rw [rt, len_app, show (Str.ofString "\n").length = 1 by decide +kernel]
      omega
    have hs := sum_len hm
    rw [List.length_map] at hs
    refine ⟨_, _, .inl rfl, rfl, ?_, nofun, Nat.le_of_ble_eq_true rfl, q ys pm so⟩
    rw [List.length_map, show (Str.ofString "").length = 0 by decide +kernel]
    omega
theorem ok_show_rooms (T : Txt K mg) (c__show_room : Cal P w K mg base 2 "_show_room" (spW K tabs (liftF wShowRoom))) (A : At K mg "show_rooms" s_show_rooms ["rooms"]) : Cal P w K mg base 3 "show_rooms" (spW K tabs (liftF wShowRooms)) := A.of fun f fd F => fn_show_rooms T c__show_room F
theorem kw_show_rooms (T : Txt K mg) (c__show_room : Cal P w K mg base 2 "_show_room" (spW K tabs (liftF wShowRoom))) (B : AtK K mg "show_rooms" s_show_rooms ["rooms"]) : CalK P w K mg base 3 "show_rooms" (spW K tabs (liftF wShowRooms)) ["rooms"] := B.of fun f fd F => fn_show_rooms T c__show_room F

end
end K04

namespace K04
open PySem PySem.Spec PyProof.Rows L2 Lk Evl Fx


local macro_rules | `(tactic| walk_at "sz") => `(tactic| first
  | exact Nat.le_of_ble_eq_true rfl
  | assumption
  | exact small_sz (Nat.le_of_ble_eq_true rfl)
  | (simp only [List.length_cons, List.length_nil, List.length_map, List.length_append]; first | omega | exact small_sz (by omega)))
local macro_rules | `(tactic| walk_at "x1") => `(tactic| first
  | with_reducible refine x_seq ?_
  | (with_reducible show wVar _ _ _); first | refine x_varF rfl ?_ | refine x_varO rfl ?_ | refine x_varV rfl ?_
  | with_reducible refine x_c ?_
  | with_reducible refine x_exf ?_
  | with_reducible refine x_excd ?_
  | (with_reducible show ∃ d1, Sl.cd (Sl.vw _) = some d1 ∧ _); refine x_excV rfl ?_
  | (with_reducible show ∃ d1, Sl.cd (Sl.own _) = some d1 ∧ _); refine x_excO rfl ?_
  | with_reducible refine x_binP ?_
  | with_reducible refine x_bin ?_
  | with_reducible refine x_adC ?_
  | with_reducible refine x_adN ?_
  | with_reducible refine x_lst ?_
  | with_reducible refine x_tup ?_
  | with_reducible refine x_lstO ?_
  | (with_reducible refine x_and (p := _ ≤ sizeLine) ?h ?_); (case h => walk_at "sz")
  | with_reducible refine x_callF ?_
  | (with_reducible show wCallU _ _ _ _ _); refine x_callU rfl ?_
  | with_reducible refine x_callV ?_
  | with_reducible refine x_join ?_
  | with_reducible refine x_waD ?_
  | with_reducible refine x_lc ?_
  | with_reducible refine x_lc2 ?_
  | with_reducible refine x_lenSets ?_
  | (with_reducible show wApp _ _ _ _); refine x_app rfl ?_
  | (with_reducible show wBinV _ _ _ _ _); refine x_binV rfl ?_
  | (with_reducible show wPopD _ _ _ _); refine x_popD rfl ?_
  | (with_reducible show wCatV _ _ _ _); refine x_catV rfl ?_
  | with_reducible refine x_slN2 ?_
  | with_reducible refine x_sortedSets ?_
  | with_reducible refine x_tplL ?_
  | with_reducible refine x_tplT ?_
  | with_reducible refine x_isB ?_
  | with_reducible refine x_r1 ?_
  | with_reducible refine x_r2 ?_
  | (with_reducible refine x_r1e ?h0 ?h1 ?_); (case h0 => omega); (case h1 => omega)
  | with_reducible refine x_iL ?_
  | with_reducible refine x_iT ?_
  | with_reducible refine x_iS ?_
  | with_reducible refine x_iE ?_
  | with_reducible refine x_iEe ?_
  | with_reducible refine x_yes ?_
  | with_reducible refine x_for ?_
  | (with_reducible show wLot _ [D.int _] _); (refine' x_lot (by assumption) ?h1 ?h2 ?h3 ?_); (case h1 => omega); (case h2 => first | decide | omega); (case h3 => first | decide | omega)
  | (with_reducible show ∃ o, _ = some (some (Sl.own o)) ∧ _); refine x_exO rfl ?_
  | with_reducible refine x_exo ?_
  | with_reducible refine x_ret ?_
  | with_reducible refine x_set ?_
  | with_reducible refine x_fin ?_
  | with_reducible refine x_fino ?_
  | (with_reducible refine x_and (p := _ < List.length _) ?h ?_); (case h => exact Nat.le_of_ble_eq_true rfl); (try dsimp only [List.set_cons_succ, List.set_cons_zero])
  | with_reducible refine x_next ?_
  | with_reducible refine x_retN ?_
  | with_reducible refine x_drop ?_
  | with_reducible refine x_asg ?_
  | (with_reducible refine x_gtp ?h ?_); (case h => rfl)
  | with_reducible refine x_gcons ?_
  | with_reducible refine x_gnil ?_
  | (with_reducible refine x_gn ?h ?_); (case h => exact Nat.le_of_ble_eq_true rfl); (try dsimp only [List.set_cons_succ, List.set_cons_zero])
  | with_reducible refine x_ifS ?_
  | with_reducible refine x_if ?_
  | with_reducible refine x_itT ?_
  | with_reducible refine x_itF ?_
  | with_reducible refine x_iteN ?_
  | with_reducible refine x_tru ?_
  | with_reducible refine x_tB ?_
  | with_reducible refine x_dtB ?_
  | with_reducible refine x_dtN ?_
  | with_reducible refine x_exb ?_
  | with_reducible refine x_exdb ?_
  | with_reducible refine x_tand ?_
  | with_reducible refine x_tor ?_
  | with_reducible refine x_tnot ?_
  | with_reducible refine x_and2 ?_
  | with_reducible refine x_or2 ?_
  | with_reducible refine x_not2 ?_
  | with_reducible refine x_chain ?_
  | with_reducible refine x_sub ?_
  | with_reducible refine x_addI ?_
  | (with_reducible refine x_addS ?h ?_); (case h => walk_at "sz")
  | (with_reducible refine x_addL ?h ?_); (case h => walk_at "sz")
  | (with_reducible refine x_addT ?h ?_); (case h => walk_at "sz")
  | with_reducible refine x_lt ?_
  | with_reducible refine x_le ?_
  | with_reducible refine x_gt ?_
  | with_reducible refine x_ge ?_
  | with_reducible refine x_ltS ?_
  | with_reducible refine x_eqI ?_
  | with_reducible refine x_neI ?_
  | with_reducible refine x_allSg ?_
  | with_reducible refine x_m0 ?_
  | with_reducible refine x_lstT ?_
  | with_reducible refine x_lstL ?_
  | with_reducible refine x_strB ?_
  | with_reducible refine x_strN ?_
  | with_reducible refine x_strS ?_
  | with_reducible refine x_isT ?_
  | with_reducible refine x_isI ?_
  | with_reducible refine x_neg ?_
  | with_reducible refine x_un ?_
  | (with_reducible refine x_pow ?h ?_); (case h => exact ⟨by decide, by decide +kernel⟩)
  | (with_reducible refine x_mod ?h ?_); (case h => first | decide | omega)
  | (with_reducible refine x_mul ?h ?_); (case h => exact mul_ok (by first | decide | omega) (by first | decide | omega))
  | (with_reducible refine x_div ?h ?_); (case h => exact div_ok (by first | decide | omega) (by first | decide | omega))
  | with_reducible refine x_ipA ?_
  | (with_reducible show wAugL _ _ _ _ _ _); refine x_augL rfl ?_
  | (with_reducible show wAug _ _ _ _ _); refine x_aug rfl ?_
  | (with_reducible show ∃ k' ds d, Sl.f (D.int _) = Sl.f (D.int k') ∧ _); refine x_augL1 rfl (by decide) rfl ?_
  | (with_reducible show ∃ k' j ds, Sl.f (D.int _) = Sl.f (D.int k') ∧ _ = some (some (Sl.own (O.lst ds))) ∧ ixN _ k' = some j ∧ _); refine x_setL1 rfl rfl ?_; (try dsimp only [List.set_cons_succ, List.set_cons_zero])
  | (with_reducible show ∃ ds j, _ = some (some (Sl.own (O.lst ds))) ∧ ixN _ _ = some j ∧ _); refine x_augL2 rfl rfl ?_; (try dsimp only [List.set_cons_succ, List.set_cons_zero])
  | (with_reducible show gSetL _ _ _ _ _); refine x_setL rfl ?_
  | (with_reducible show dIx (D.lst _) (D.int _) _); refine x_ixL rfl ?_
  | (with_reducible show dIx (D.tup _) (D.int _) _); refine x_ixT rfl ?_
  | with_reducible refine x_cb ?_
  | (with_reducible show wCB1 _ _ _ _); refine x_cb1 rfl rfl ?_
  | with_reducible refine x_fm ?_
  | with_reducible refine x_exl ?_
  | with_reducible refine x_ext ?_
  | with_reducible refine x_exs ?_
  | with_reducible refine x_exi ?_
  | with_reducible refine x_sl ?_
  | with_reducible refine x_slN ?_
  | with_reducible refine x_slS ?_
  | with_reducible refine x_frz ?_
  | with_reducible refine x_frL ?_
  | with_reducible refine x_revT ?_
  | with_reducible refine x_revL ?_
  | with_reducible refine x_splitO ?_
  | (with_reducible show wSlO _ _ _ _ _); refine x_slO rfl ?_
  | (with_reducible show ∃ ds2, _ = some (some (Sl.own (O.lst ds2))) ∧ _); refine x_exOl rfl ?_
  | with_reducible refine x_dictO ?_
  | with_reducible refine x_psC ?_
  | with_reducible refine x_psN ?_
  | with_reducible refine x_get ?_
  | (with_reducible show gSetSl _ _ _ _ _ _); refine x_setSl rfl ?_
  | with_reducible refine x_split ?_
  | with_reducible refine x_isN1 ?_
  | with_reducible refine x_isN0 rfl ?_
  | with_reducible refine x_iZ ?_
  | with_reducible refine x_zT ?_
  | with_reducible refine x_zL ?_
  | with_reducible refine x_stp ?_
  | with_reducible refine x_js ?_
  | with_reducible refine x_jsC ?_
  | with_reducible refine x_jsN ?_
  | with_reducible refine x_fmt ?_
  | with_reducible refine x_callFX ?_
  | (with_reducible refine x_glp ?h ?_); (case h => rfl)
  | with_reducible refine x_raiseR ?_
  | with_reducible refine x_row ?_
  | with_reducible refine x_lenL ?_
  | with_reducible refine x_lenT ?_
  | with_reducible refine x_lenD ?_
  | (with_reducible refine x_lenS ?h ?_); (case h => walk_at "sz")
  | with_reducible refine x_max ?_
  | with_reducible refine x_min ?_
  | with_reducible refine x_intI ?_
  | with_reducible refine x_intB ?_
  | (with_reducible refine x_isInt ?h ?_); (case h => first | assumption | exact part_ty (by assumption) | (intro _ hh; cases hh; done))
  | (with_reducible refine x_isBl ?h ?_); (case h => first | assumption | exact part_ty (by assumption) | (intro _ hh; cases hh; done))
  | (with_reducible refine x_isStr ?h ?_); (case h => first | assumption | exact part_ty (by assumption) | (intro _ hh; cases hh; done))
  | (with_reducible refine x_isTup ?h ?_); (case h => first | assumption | exact part_ty (by assumption) | (intro _ hh; cases hh; done))
  | (with_reducible refine x_isLst ?h ?_); (case h => first | assumption | exact part_ty (by assumption) | (intro _ hh; cases hh; done))
  | (with_reducible refine x_isDic ?h ?_); (case h => first | assumption | exact part_ty (by assumption) | (intro _ hh; cases hh; done))
  | (with_reducible refine x_itTe ?e ?_); (case e => rfl)
  | (with_reducible refine x_itFe ?e ?_); (case e => rfl)
  | ((with_reducible show _ ∧ _); refine And.intro (Nat.le_of_ble_eq_true rfl) ?_))
local macro_rules | `(tactic| walk_at "x") => `(tactic| repeat (walk_at "x1"))

section
variable {P : Program} {w : World} {K : PySem.W.Frag} {mg : Str → Option Value} {base : Heap} {tabs : List Addr}
/-! ### what the law says of rooms; the same rooms in another order -/
local macro_rules | `(tactic| walk_at "x1") => `(tactic| first
  | with_reducible refine x_dnewO ?_
  | with_reducible refine x_dput ?_
  | with_reducible refine x_dix ?_
  | with_reducible refine x_sortedD ?_
  | with_reducible refine x_star ?_
  | with_reducible refine x_starT ?_
  | with_reducible refine x_frzD ?_)
theorem line_eq (y o : Str) (n : Int) : roomT y o n ++ "\n" = Str.ofString "room " ++ y ++ Str.ofString " of " ++ o ++ Str.ofString " holds " ++ ((toString n : String) : Str) ++ Str.ofString "\n" := by
  refine TL.ext_tl ?_
  unfold roomT
  rw [TL.tl_append, TL.join_eq, TL.tl_join]
  simp only [List.zipWith_cons_cons, List.zipWith_nil_left, List.map_cons, List.map_nil, TL.joinL, pairT, TL.tl_append, List.append_assoc, fmtT]
  rw [show TL.tl Str.empty = [] from rfl, show TL.tl (Str.ofString "room ") = TL.tl (Str.ofString "room") ++ TL.tl (Str.ofString " ") by decide +kernel, show TL.tl (Str.ofString " of ") = TL.tl (Str.ofString " ") ++ (TL.tl (Str.ofString "of") ++ TL.tl (Str.ofString " ")) by decide +kernel, show TL.tl (Str.ofString " holds ") = TL.tl (Str.ofString " ") ++ (TL.tl (Str.ofString "holds") ++ TL.tl (Str.ofString " ")) by decide +kernel]
  simp only [List.nil_append, List.append_assoc]
def wRows : WFn := fun ds Q => ∃ l, ds = [dicD l] ∧ RoomsOk l 4 ∧ ∀ ys : List Str, ys.Perm (keysT l) → sortedS ys = true → Q (.f (.lst ((ys.map (rowT l)).map D.str)))
theorem mono__law_rows : MonoF wRows := fun ds Q Q' i ⟨l, h, h1, q⟩ => ⟨l, h, h1, fun ys a b => i _ (q ys a b)⟩
theorem ok_rows (T : Txt K mg) (A : At K mg "_law_rows" s__law_rows ["hall"]) : Cal P w K mg base 1 "_law_rows" (spW K tabs (liftF wRows)) := by
  refine A.of fun f fd F => fx_fnF F sc__law_rows (fun ds Q ⟨l, h, _⟩ => by rw [h]; rfl) fun cdv A outer s H E TT P0 σ0 hcd hr => ⟨_, (gss_cons (gs_setE (i := 1) sc__law_rows.nd rfl (Or.inl rfl) (ge_lstOD gd_nil))
      (gss_cons (gs_for PassesOwn.never rfl (gi_list (ge_frz (ge_sortedD rfl rfl T.z_sorted (GE.of_pure (gp_var (pv 0)))))) (gg_name (pg_name (i := 2) sc__law_rows.nd rfl (Or.inl rfl)) rfl)
      (gss_cons (gs_asg (ge_dix (u1 hr) (GE.of_pure (gp_var (pv 0))) (GE.of_pure (gp_var (pv 2))) (fun _ _ => rfl)) (gg_tup (n := 2) rfl (ggs_cons (pg_name (i := 3) sc__law_rows.nd rfl (Or.inl rfl)) rfl (ggs_cons (pg_name (i := 4) sc__law_rows.nd rfl (Or.inl rfl)) rfl ggs_nil))))
      (gss_one (gs_append (pv 1) (gd_cons (ge_op opx_add (ge_op opx_add (GE.of_pure (gp_op opx_add (gp_op opx_add (gp_op opx_add (gp_op opx_add gp_str (gp_var (pv 2))) gp_str) (gp_var (pv 3))) gp_str)) (ge_cbT cax_strA (by rfl) T.z_str (by decide +kernel) (gd_cons (GE.of_pure (gp_var (pv 4))) gd_nil))) (GE.of_pure gp_str)) gd_nil)))))
      (gss_one (gs_ret (ge_move (pv 1)))))), fun ds Q ⟨l, h, h1, q⟩ => ?_⟩
  subst h
  refine x_start (e := [some (.f (dicD l)), none, none, none, none]) rfl ?_
  walk_at "x"
  refine ⟨l, keysT l, rfl, keys_of h1, by unfold keysT; rw [List.length_map]; have := h1.len; omega, fun ys pm so => ?_⟩
  have hl : ys.length ≤ 4 := by rw [pm.length_eq]; unfold keysT; rw [List.length_map]; exact h1.len
  refine ⟨_, _, rfl, rfl, ?_⟩
  walk_at "x"
  refine ⟨fun i e => ∃ x2 x3 x4, e = [some (.f (dicD l)), some (.own (.lst (((ys.map (rowT l)).take i).map D.str))), x2, x3, x4], ⟨_, _, _, rfl⟩, ?_, ?_⟩
  · rintro i d e hd ⟨x2, x3, x4, rfl⟩
    rw [List.getElem?_map] at hd
    cases hy : ys[i]? with
    | none => rw [hy] at hd; cases hd
    | some y =>
      rw [hy] at hd
      cases hd
      obtain ⟨o, n, g, a1, a2, a3, rt⟩ := get_of h1 (pm.mem_iff.mp (List.mem_of_getElem? hy))
      walk_at "x"
      refine ⟨l, rfl, ?_⟩
      walk_at "x"
      refine ⟨.inr y, _, rfl, g, ?_⟩
      have z1 : n.natAbs.log2 < 1920 := Nat.lt_trans (PySem.Flt.log2_lt_of (k := 250) (by decide) (by omega)) (by decide)
      have z2 : y.length ≤ 8 := a1.len.2
      have z3 : o.length ≤ 8 := a2.len.2
      have z4 := int_len z1
      have e1 : (Str.ofString "room ").length = 5 := by decide +kernel
      have e2 : (Str.ofString " of ").length = 4 := by decide +kernel
      have e3 : (Str.ofString " holds ").length = 7 := by decide +kernel
      have e4 : (Str.ofString "\n").length = 1 := by decide +kernel
      walk_at "x"
      iterate 4
        refine ⟨sz_small (m := 3000) (by simp only [len_app, e1, e2, e3, e4]; omega) (by decide), ?_⟩
        walk_at "x"
      refine ⟨z1, ?_⟩
      walk_at "x"
      iterate 2
        refine ⟨sz_small (m := 3000) (by simp only [len_app, e1, e2, e3, e4]; omega) (by decide), ?_⟩
        walk_at "x"
      refine ⟨_, _, rfl, rfl, by rw [List.length_map, List.length_take, List.length_map]; omega, ?_⟩
      refine ⟨some (.f (.str y)), some (.f (.str o)), some (.f (.int n)), ?_⟩
      rw [take_snoc (x := rowT l y) (by rw [List.getElem?_map, hy]; rfl), List.map_append, rt, line_eq]
      rfl
  rintro e ⟨x2, x3, x4, rfl⟩
  rw [show (ys.map D.str).length = (ys.map (rowT l)).length by rw [List.length_map, List.length_map], List.take_length]
  walk_at "x"
  refine ⟨_, _, rfl, rfl, ?_⟩
  walk_at "x"
  exact q ys pm so
theorem erase_map {α β : Type} (f : α → β) (l : List α) (i : Nat) : (l.map f).eraseIdx i = (l.eraseIdx i).map f := by
  rw [List.eraseIdx_eq_take_drop_succ, List.eraseIdx_eq_take_drop_succ, List.map_append, List.map_take, List.map_drop]
theorem perm_erase {l : List Str} {i : Nat} {y : Str} (h : l[i]? = some y) : (y :: l.eraseIdx i).Perm l := by
  obtain ⟨hi, e⟩ := List.getElem?_eq_some_iff.mp h
  have e2 : l.take i ++ y :: l.drop (i + 1) = l := by rw [← e, ← List.drop_eq_getElem_cons hi, List.take_append_drop]
  rw [List.eraseIdx_eq_take_drop_succ]
  exact List.perm_middle.symm.trans (List.Perm.of_eq e2)
theorem keys_nd {l : List (Key × D)} {n : Nat} (h : RoomsOk l n) : (keysT l).Nodup := by
  have a := h.nd
  rw [keys_of h] at a
  exact (List.pairwise_map.mp a).imp (S := fun a b => a ≠ b) fun h e => h (congrArg Sum.inr e)
theorem getP_left {l m : List (Key × D)} {k : Key} {d : D} (h : getP l k = some d) : getP (l ++ m) k = some d := by
  unfold getP at h ⊢
  rw [List.find?_append]
  cases e : l.find? fun kv => decide (kv.1 = k) with
  | none => rw [e] at h; cases h
  | some p => rw [e] at h; exact h
theorem getP_right {l : List (Key × D)} {k : Key} {d : D} (h : k ∉ l.map (·.1)) : getP (l ++ [(k, d)]) k = some d := by
  unfold getP
  rw [List.find?_append, List.find?_eq_none.mpr fun p hp z => h (List.mem_map.mpr ⟨p, hp, of_decide_eq_true z⟩)]
  simp
theorem putP_new {l : List (Key × D)} {k : Key} {d : D} (h : k ∉ l.map (·.1)) : putP l k d = l ++ [(k, d)] := by
  unfold putP
  refine if_neg fun z => h ?_
  obtain ⟨kv, m, e⟩ := List.any_eq_true.mp z
  exact List.mem_map.mpr ⟨kv, m, of_decide_eq_true e⟩
/-- l' has what l has of the names ys -/
structure Part (l l' : List (Key × D)) (left : List Str) (n : Nat) : Prop where
  ok : RoomsOk l' n
  pm : (keysT l' ++ left).Perm (keysT l)
  same : ∀ y ∈ keysT l', getP l' (.inr y) = getP l (.inr y)
def wOther : WUn := fun o ds Q => ∃ n l, ds = [dicD l] ∧ Un o n ∧ n + 4 ≤ 100000 ∧ RoomsOk l 4 ∧ ∀ l' o', Part l l' [] 4 → Un o' (n + 4) → Q (.f (dicD l')) o'
theorem mono__law_otherwise : MonoU2 wOther := fun o ds Q Q' i ⟨n, l, h1, h2, h3, h4, q⟩ => ⟨n, l, h1, h2, h3, h4, fun l' o' a b => i _ _ (q l' o' a b)⟩
theorem Part.step {l l' : List (Key × D)} {L : List Str} {n j : Nat} {y : Str} {d : D} (h1 : RoomsOk l 4) (pt : Part l l' L n) (hy : L[j]? = some y) (g : getP l (.inr y) = some d) (ro : RoomOk (.inr y, d)) : Part l (putP l' (.inr y) d) (L.eraseIdx j) (n + 1) := by
  have nd := (pt.pm.nodup_iff).mpr (keys_nd h1)
  have hn : y ∉ keysT l' := fun m => (List.nodup_append.mp nd).2.2 y m y (List.mem_of_getElem? hy) rfl
  have hk : (Sum.inr y : Key) ∉ l'.map (·.1) := by
    rw [keys_of pt.ok]
    intro m
    obtain ⟨z, hz, e⟩ := List.mem_map.mp m
    cases e
    exact hn hz
  refine ⟨pt.ok.put ro, ?_, fun z hz => ?_⟩
  · rw [putP_new hk]
    have e : keysT (l' ++ [((Sum.inr y : Key), d)]) = keysT l' ++ [y] := by unfold keysT; rw [List.map_append]; rfl
    rw [e, List.append_assoc]
    exact (List.Perm.append_left _ (perm_erase hy)).trans pt.pm
  · rw [putP_new hk] at hz ⊢
    have e : keysT (l' ++ [((Sum.inr y : Key), d)]) = keysT l' ++ [y] := by unfold keysT; rw [List.map_append]; rfl
    rw [e] at hz
    rcases List.mem_append.mp hz with m | m
    · obtain ⟨ow, nn, g', _⟩ := get_of pt.ok m
      rw [getP_left g', ← pt.same z m, g']
    · rw [List.mem_singleton.mp m, getP_right hk, g]
theorem x_lenD {l : List (Key × D)} {Q : D → Prop} (h : Q (.int (l.length : Nat))) : cLen [dicD l] Q := by
  show Q (.int ((l.map (·.2)).length : Nat))
  rw [List.length_map]
  exact h
theorem ok_other (T : Txt K mg) (c__law_lot : Cal P w K mg base 1 "_law_lot" (spW K tabs (liftU wLot))) (A : At K mg "_law_otherwise" s__law_otherwise ["urn", "hall"]) : Cal P w K mg base 2 "_law_otherwise" (spW K tabs (liftU wOther)) := by
  refine A.of fun f fd F => fx_fnU F sc__law_otherwise (fun o ds Q ⟨n, l, h, _⟩ => by rw [h]; rfl) fun cdv A outer s H E TT P0 σ0 hcd hr => ⟨_, (gss_cons (gs_setE (i := 2) sc__law_otherwise.nd rfl (Or.inl rfl) (ge_sortedD rfl rfl T.z_sorted (GE.of_pure (gp_var (pv 1)))))
      (gss_cons (gs_setE (i := 3) sc__law_otherwise.nd rfl (Or.inl rfl) ge_dnewO)
      (gss_cons (gs_for PassesOwn.never rfl (gi_r1 rfl T.z_range (GD.ga (gd_cons (ge_cbB1 cax_len (by rfl) T.z_len (by decide +kernel) (pv 1)) gd_nil))) (gg_name (pg_name (i := 4) sc__law_otherwise.nd rfl (Or.inl rfl)) rfl)
      (gss_cons (gs_setE (i := 5) sc__law_otherwise.nd rfl (Or.inl rfl) (ge_popD (pv 2) (gd_cons (ge_callU c__law_lot hr (by decide) rfl rfl rfl mono__law_lot (pv 0) (gd_cons (ge_cbB1 cax_len (by rfl) T.z_len (by decide +kernel) (pv 2)) gd_nil)) gd_nil)))
      (gss_one (gs_dput (u1 hr) (pv 3) (GE.of_pure (gp_var (pv 5))) (ge_dix (u1 hr) (GE.of_pure (gp_var (pv 1))) (GE.of_pure (gp_var (pv 5))) (fun _ _ => rfl))))))
      (gss_one (gs_ret (ge_move (pv 3))))))), fun o ds Q ⟨n, l, h, u, hn, h1, q⟩ => ?_⟩
  subst h
  refine x_start (e := [some (.own o), some (.f (dicD l)), none, none, none, none]) rfl ?_
  walk_at "x"
  refine ⟨l, keysT l, rfl, keys_of h1, by unfold keysT; rw [List.length_map]; have := h1.len; omega, fun ys pm so => ?_⟩
  have hl : ys.length = l.length := by rw [pm.length_eq]; unfold keysT; rw [List.length_map]
  have h4 := h1.len
  walk_at "x"
  refine x_lenD ?_
  walk_at "x"
  refine ⟨fun i e => ∃ o' L l' x4 x5, e = [some (.own o'), some (.f (dicD l)), some (.own (.lst (L.map D.str))), some (.own (dicO l')), x4, x5] ∧ Un o' (n + i) ∧ L.length + i = l.length ∧ Part l l' L i, ⟨o, ys, [], none, none, rfl, u, hl, ⟨⟨List.nodup_nil, Nat.le_refl _, nofun⟩, pm, nofun⟩⟩, ?_, ?_⟩
  · rintro i d e hd ⟨o', L, l', x4, x5, rfl, u', hL, pt⟩
    obtain ⟨hi, rfl⟩ := rng_at hd
    walk_at "x"
    have hi : i < l.length := by simpa using hi
    refine ⟨_, _, rfl, u', by omega, by rw [List.length_map]; omega, by rw [List.length_map]; omega, fun r o2 r0 r1 u2 => ?_⟩
    rw [List.length_map] at r1
    have hr : r.toNat < L.length := by omega
    have hy : L[r.toNat]? = some L[r.toNat] := List.getElem?_eq_getElem hr
    have pe := perm_erase hy
    have el : (L.eraseIdx r.toNat).length + 1 = L.length := by rw [List.length_eraseIdx_of_lt hr]; omega
    generalize L[r.toNat] = y at hy pe
    have hyL : y ∈ L := List.mem_of_getElem? hy
    have hyl : y ∈ keysT l := pt.pm.mem_iff.mp (List.mem_append_right _ hyL)
    obtain ⟨ow, nn, g, a1, a2, a3, rt⟩ := get_of h1 hyl
    walk_at "x"
    dsimp only [List.set_cons_zero]
    refine ⟨r, L.map D.str, .str y, rfl, rfl, r0, by rw [List.length_map]; omega, by rw [List.getElem?_map, hy]; rfl, nofun, Nat.le_of_ble_eq_true rfl, ?_⟩
    dsimp only [List.set_cons_zero, List.set_cons_succ]
    walk_at "x"
    refine ⟨l, rfl, ?_⟩
    walk_at "x"
    refine ⟨.inr y, _, rfl, g, ?_⟩
    walk_at "x"
    refine x_dput1 rfl ?_
    walk_at "x"
    refine ⟨.inr y, l', rfl, rfl, Nat.le_trans pt.ok.len (by omega), ?_⟩
    refine ⟨o2, L.eraseIdx r.toNat, putP l' (.inr y) (.tup [.str ow, .int nn]), some (.f (.int (i : Nat))), some (.f (.str y)), ?_, u2, by omega, pt.step h1 hy g ⟨y, ow, nn, rfl, a1, a2, a3⟩⟩
    rw [erase_map]
    rfl
  rintro e ⟨o', L, l', x4, x5, rfl, u', hL, pt⟩
  rw [List.length_map, List.length_range] at u' hL pt
  have hL0 : L = [] := List.length_eq_zero_iff.mp (by omega)
  subst hL0
  walk_at "x"
  refine ⟨_, _, rfl, cd_dicO l', ?_⟩
  walk_at "x"
  exact q l' o' ⟨⟨pt.ok.nd, Nat.le_trans pt.ok.len (by omega), pt.ok.ok⟩, pt.pm, pt.same⟩ (u'.mono (by omega))

end
end K04

namespace K04
open PySem PySem.Spec PyProof.Rows L2 Lk Evl Fx


local macro_rules | `(tactic| walk_at "sz") => `(tactic| first
  | exact Nat.le_of_ble_eq_true rfl
  | assumption
  | exact small_sz (Nat.le_of_ble_eq_true rfl)
  | (simp only [List.length_cons, List.length_nil, List.length_map, List.length_append]; first | omega | exact small_sz (by omega)))
local macro_rules | `(tactic| walk_at "x1") => `(tactic| first
  | with_reducible refine x_seq ?_
  | (with_reducible show wVar _ _ _); first | refine x_varF rfl ?_ | refine x_varO rfl ?_ | refine x_varV rfl ?_
  | with_reducible refine x_c ?_
  | with_reducible refine x_exf ?_
  | with_reducible refine x_excd ?_
  | (with_reducible show ∃ d1, Sl.cd (Sl.vw _) = some d1 ∧ _); refine x_excV rfl ?_
  | (with_reducible show ∃ d1, Sl.cd (Sl.own _) = some d1 ∧ _); refine x_excO rfl ?_
  | with_reducible refine x_binP ?_
  | with_reducible refine x_bin ?_
  | with_reducible refine x_adC ?_
  | with_reducible refine x_adN ?_
  | with_reducible refine x_lst ?_
  | with_reducible refine x_tup ?_
  | with_reducible refine x_lstO ?_
  | (with_reducible refine x_and (p := _ ≤ sizeLine) ?h ?_); (case h => walk_at "sz")
  | with_reducible refine x_callF ?_
  | (with_reducible show wCallU _ _ _ _ _); refine x_callU rfl ?_
  | with_reducible refine x_callV ?_
  | with_reducible refine x_join ?_
  | with_reducible refine x_waD ?_
  | with_reducible refine x_lc ?_
  | with_reducible refine x_lc2 ?_
  | with_reducible refine x_lenSets ?_
  | (with_reducible show wApp _ _ _ _); refine x_app rfl ?_
  | (with_reducible show wBinV _ _ _ _ _); refine x_binV rfl ?_
  | (with_reducible show wPopD _ _ _ _); refine x_popD rfl ?_
  | (with_reducible show wCatV _ _ _ _); refine x_catV rfl ?_
  | with_reducible refine x_slN2 ?_
  | with_reducible refine x_sortedSets ?_
  | with_reducible refine x_tplL ?_
  | with_reducible refine x_tplT ?_
  | with_reducible refine x_isB ?_
  | with_reducible refine x_r1 ?_
  | with_reducible refine x_r2 ?_
  | (with_reducible refine x_r1e ?h0 ?h1 ?_); (case h0 => omega); (case h1 => omega)
  | with_reducible refine x_iL ?_
  | with_reducible refine x_iT ?_
  | with_reducible refine x_iS ?_
  | with_reducible refine x_iE ?_
  | with_reducible refine x_iEe ?_
  | with_reducible refine x_yes ?_
  | with_reducible refine x_for ?_
  | (with_reducible show wLot _ [D.int _] _); (refine' x_lot (by assumption) ?h1 ?h2 ?h3 ?_); (case h1 => omega); (case h2 => first | decide | omega); (case h3 => first | decide | omega)
  | (with_reducible show ∃ o, _ = some (some (Sl.own o)) ∧ _); refine x_exO rfl ?_
  | with_reducible refine x_exo ?_
  | with_reducible refine x_ret ?_
  | with_reducible refine x_set ?_
  | with_reducible refine x_fin ?_
  | with_reducible refine x_fino ?_
  | (with_reducible refine x_and (p := _ < List.length _) ?h ?_); (case h => exact Nat.le_of_ble_eq_true rfl); (try dsimp only [List.set_cons_succ, List.set_cons_zero])
  | with_reducible refine x_next ?_
  | with_reducible refine x_retN ?_
  | with_reducible refine x_drop ?_
  | with_reducible refine x_asg ?_
  | (with_reducible refine x_gtp ?h ?_); (case h => rfl)
  | with_reducible refine x_gcons ?_
  | with_reducible refine x_gnil ?_
  | (with_reducible refine x_gn ?h ?_); (case h => exact Nat.le_of_ble_eq_true rfl); (try dsimp only [List.set_cons_succ, List.set_cons_zero])
  | with_reducible refine x_ifS ?_
  | with_reducible refine x_if ?_
  | with_reducible refine x_itT ?_
  | with_reducible refine x_itF ?_
  | with_reducible refine x_iteN ?_
  | with_reducible refine x_tru ?_
  | with_reducible refine x_tB ?_
  | with_reducible refine x_dtB ?_
  | with_reducible refine x_dtN ?_
  | with_reducible refine x_exb ?_
  | with_reducible refine x_exdb ?_
  | with_reducible refine x_tand ?_
  | with_reducible refine x_tor ?_
  | with_reducible refine x_tnot ?_
  | with_reducible refine x_and2 ?_
  | with_reducible refine x_or2 ?_
  | with_reducible refine x_not2 ?_
  | with_reducible refine x_chain ?_
  | with_reducible refine x_sub ?_
  | with_reducible refine x_addI ?_
  | (with_reducible refine x_addS ?h ?_); (case h => walk_at "sz")
  | (with_reducible refine x_addL ?h ?_); (case h => walk_at "sz")
  | (with_reducible refine x_addT ?h ?_); (case h => walk_at "sz")
  | with_reducible refine x_lt ?_
  | with_reducible refine x_le ?_
  | with_reducible refine x_gt ?_
  | with_reducible refine x_ge ?_
  | with_reducible refine x_ltS ?_
  | with_reducible refine x_eqI ?_
  | with_reducible refine x_neI ?_
  | with_reducible refine x_allSg ?_
  | with_reducible refine x_m0 ?_
  | with_reducible refine x_lstT ?_
  | with_reducible refine x_lstL ?_
  | with_reducible refine x_strB ?_
  | with_reducible refine x_strN ?_
  | with_reducible refine x_strS ?_
  | with_reducible refine x_isT ?_
  | with_reducible refine x_isI ?_
  | with_reducible refine x_neg ?_
  | with_reducible refine x_un ?_
  | (with_reducible refine x_pow ?h ?_); (case h => exact ⟨by decide, by decide +kernel⟩)
  | (with_reducible refine x_mod ?h ?_); (case h => first | decide | omega)
  | (with_reducible refine x_mul ?h ?_); (case h => exact mul_ok (by first | decide | omega) (by first | decide | omega))
  | (with_reducible refine x_div ?h ?_); (case h => exact div_ok (by first | decide | omega) (by first | decide | omega))
  | with_reducible refine x_ipA ?_
  | (with_reducible show wAugL _ _ _ _ _ _); refine x_augL rfl ?_
  | (with_reducible show wAug _ _ _ _ _); refine x_aug rfl ?_
  | (with_reducible show ∃ k' ds d, Sl.f (D.int _) = Sl.f (D.int k') ∧ _); refine x_augL1 rfl (by decide) rfl ?_
  | (with_reducible show ∃ k' j ds, Sl.f (D.int _) = Sl.f (D.int k') ∧ _ = some (some (Sl.own (O.lst ds))) ∧ ixN _ k' = some j ∧ _); refine x_setL1 rfl rfl ?_; (try dsimp only [List.set_cons_succ, List.set_cons_zero])
  | (with_reducible show ∃ ds j, _ = some (some (Sl.own (O.lst ds))) ∧ ixN _ _ = some j ∧ _); refine x_augL2 rfl rfl ?_; (try dsimp only [List.set_cons_succ, List.set_cons_zero])
  | (with_reducible show gSetL _ _ _ _ _); refine x_setL rfl ?_
  | (with_reducible show dIx (D.lst _) (D.int _) _); refine x_ixL rfl ?_
  | (with_reducible show dIx (D.tup _) (D.int _) _); refine x_ixT rfl ?_
  | with_reducible refine x_cb ?_
  | (with_reducible show wCB1 _ _ _ _); refine x_cb1 rfl rfl ?_
  | with_reducible refine x_fm ?_
  | with_reducible refine x_exl ?_
  | with_reducible refine x_ext ?_
  | with_reducible refine x_exs ?_
  | with_reducible refine x_exi ?_
  | with_reducible refine x_sl ?_
  | with_reducible refine x_slN ?_
  | with_reducible refine x_slS ?_
  | with_reducible refine x_frz ?_
  | with_reducible refine x_frL ?_
  | with_reducible refine x_revT ?_
  | with_reducible refine x_revL ?_
  | with_reducible refine x_splitO ?_
  | (with_reducible show wSlO _ _ _ _ _); refine x_slO rfl ?_
  | (with_reducible show ∃ ds2, _ = some (some (Sl.own (O.lst ds2))) ∧ _); refine x_exOl rfl ?_
  | with_reducible refine x_dictO ?_
  | with_reducible refine x_psC ?_
  | with_reducible refine x_psN ?_
  | with_reducible refine x_get ?_
  | (with_reducible show gSetSl _ _ _ _ _ _); refine x_setSl rfl ?_
  | with_reducible refine x_split ?_
  | with_reducible refine x_isN1 ?_
  | with_reducible refine x_isN0 rfl ?_
  | with_reducible refine x_iZ ?_
  | with_reducible refine x_zT ?_
  | with_reducible refine x_zL ?_
  | with_reducible refine x_stp ?_
  | with_reducible refine x_js ?_
  | with_reducible refine x_jsC ?_
  | with_reducible refine x_jsN ?_
  | with_reducible refine x_fmt ?_
  | with_reducible refine x_callFX ?_
  | (with_reducible refine x_glp ?h ?_); (case h => rfl)
  | with_reducible refine x_raiseR ?_
  | with_reducible refine x_row ?_
  | with_reducible refine x_lenL ?_
  | with_reducible refine x_lenT ?_
  | with_reducible refine x_lenD ?_
  | (with_reducible refine x_lenS ?h ?_); (case h => walk_at "sz")
  | with_reducible refine x_max ?_
  | with_reducible refine x_min ?_
  | with_reducible refine x_intI ?_
  | with_reducible refine x_intB ?_
  | (with_reducible refine x_isInt ?h ?_); (case h => first | assumption | exact part_ty (by assumption) | (intro _ hh; cases hh; done))
  | (with_reducible refine x_isBl ?h ?_); (case h => first | assumption | exact part_ty (by assumption) | (intro _ hh; cases hh; done))
  | (with_reducible refine x_isStr ?h ?_); (case h => first | assumption | exact part_ty (by assumption) | (intro _ hh; cases hh; done))
  | (with_reducible refine x_isTup ?h ?_); (case h => first | assumption | exact part_ty (by assumption) | (intro _ hh; cases hh; done))
  | (with_reducible refine x_isLst ?h ?_); (case h => first | assumption | exact part_ty (by assumption) | (intro _ hh; cases hh; done))
  | (with_reducible refine x_isDic ?h ?_); (case h => first | assumption | exact part_ty (by assumption) | (intro _ hh; cases hh; done))
  | (with_reducible refine x_itTe ?e ?_); (case e => rfl)
  | (with_reducible refine x_itFe ?e ?_); (case e => rfl)
  | ((with_reducible show _ ∧ _); refine And.intro (Nat.le_of_ble_eq_true rfl) ?_))
local macro_rules | `(tactic| walk_at "x") => `(tactic| repeat (walk_at "x1"))

section
variable {P : Program} {w : World} {K : PySem.W.Frag} {mg : Str → Option Value} {base : Heap} {tabs : List Addr}
/-! ### one order alone; the rooms' repr -/
theorem rising_pw : ∀ (l : List Str) (p : Str), risingS p l = true → (p :: l).Pairwise (fun a b : Str => a.cps.toList ≤ b.cps.toList)
  | [], p, _ => List.pairwise_singleton _ _
  | x :: r, p, h => by
    have h : (!ltCps x.cps.toList p.cps.toList && risingS x r) = true := h
    rw [Bool.and_eq_true, Bool.not_eq_true', ltCps_eq, decide_eq_false_iff_not, List.not_lt] at h
    have ih := rising_pw r x h.2
    refine List.Pairwise.cons (fun b hb => ?_) ih
    rcases List.mem_cons.mp hb with rfl | hb
    · exact h.1
    · exact List.le_trans h.1 ((List.pairwise_cons.mp ih).1 b hb)
theorem sorted_uniq {ys zs : List Str} (h1 : sortedS ys = true) (h2 : sortedS zs = true) (p : ys.Perm zs) : ys = zs := by
  have pw : ∀ l : List Str, sortedS l = true → l.Pairwise (fun a b : Str => a.cps.toList ≤ b.cps.toList) := fun l h => by
    cases l with
    | nil => exact .nil
    | cons x r => exact rising_pw r x h
  exact List.Perm.eq_of_pairwise (fun a b _ _ x y => TL.ext_tl (List.le_antisymm x y)) (pw _ h1) (pw _ h2) p
theorem room_okPy {o : Str} {i : Int} (h : IsNm o) : okPy (.tup [.str o, .int i]) = true := by
  have h := nm_ok h
  simp [okPy, SeqAt.shaped, D.py, D.pyL, PyData.canLay0, PyData.canLayAll0, PyData.depth, PyData.depthAll, h]
theorem kv_ok : ∀ {l : List (Key × D)}, (∀ p ∈ l, RoomOk p) → PyData.showableKv (l.map fun p => (keyPy p.1, p.2.py)) = true ∧ PyData.leavesShortKv 13 (l.map fun p => (keyPy p.1, p.2.py)) = true ∧ PyData.bulkKv (l.map fun p => (keyPy p.1, p.2.py)) ≤ 20 * l.length ∧ PyData.depthKv (l.map fun p => (keyPy p.1, p.2.py)) ≤ 5
  | [], _ => by simp [PyData.showableKv, PyData.leavesShortKv, PyData.bulkKv, PyData.depthKv]
  | p :: l, h => by
    obtain ⟨x, o, i, rfl, a1, a2, a3⟩ := h p (List.mem_cons_self ..)
    obtain ⟨i1, i2, i3, i4⟩ := kv_ok fun p hp => h p (List.mem_cons_of_mem _ hp)
    have z1 : i.natAbs.log2 < 1920 := Nat.lt_trans (PySem.Flt.log2_lt_of (k := 250) (by decide) (by omega)) (by decide)
    have z2 : (PyData.shown (.int i)).length ≤ 13 := PyData.shown_int_le2 (by omega) (by omega)
    have z3 : x.cps.size ≤ 8 := a1.len.2
    have z4 : o.cps.size ≤ 8 := a2.len.2
    have z5 : ∀ {y : Str}, IsNm y → (y.cps.toList.all fun c => decide (c < 16 ^ 8)) = true := fun hy => List.all_eq_true.mpr fun c hc => decide_eq_true (Nat.lt_of_le_of_lt (nm_cps hy c hc).2 (by decide))
    have z6 := z5 a1
    have z7 := z5 a2
    rw [List.length_cons]
    show PyData.showableKv ((PyData.str x, PyData.tuple [.str o, .int i]) :: l.map fun p => (keyPy p.1, p.2.py)) = true ∧ PyData.leavesShortKv 13 ((PyData.str x, PyData.tuple [.str o, .int i]) :: l.map fun p => (keyPy p.1, p.2.py)) = true ∧ PyData.bulkKv ((PyData.str x, PyData.tuple [.str o, .int i]) :: l.map fun p => (keyPy p.1, p.2.py)) ≤ 20 * (l.length + 1) ∧ PyData.depthKv ((PyData.str x, PyData.tuple [.str o, .int i]) :: l.map fun p => (keyPy p.1, p.2.py)) ≤ 5
    generalize (l.map fun p => (keyPy p.1, p.2.py)) = L at i1 i2 i3 i4 ⊢
    refine ⟨?_, ?_, ?_, ?_⟩
    · simp [PyData.showableKv, PyData.showable, PyData.showableAll, z1, i1]
    · simp only [PyData.leavesShortKv, PyData.leavesShort, PyData.leavesShortAll, z6, z7, decide_eq_true z2, i2, Bool.and_self, Bool.and_true, Bool.true_and]
    · simp only [PyData.bulkKv, PyData.bulk, PyData.bulkAll]
      omega
    · simp only [PyData.depthKv, PyData.depth, PyData.depthAll]
      omega
theorem repr_ok {l : List (Key × D)} (h : RoomsOk l 4) : ReprOk l := by
  obtain ⟨k1, k2, k3, k4⟩ := kv_ok h.ok
  have hl := h.len
  refine ⟨fun p hp => ?_, ?_, ?_, ?_⟩
  · obtain ⟨x, o, i, rfl, a1, a2, a3⟩ := h.ok p hp
    exact ⟨room_okPy a2, by simp [D.py, D.pyL, flatP, flatPL]⟩
  · unfold dictPy
    simpa only [PyData.showable] using k1
  · have b := PyData.shown_le_bulk 13 (by decide) (dictPy l) (by unfold dictPy; simpa only [PyData.leavesShort] using k2)
    have e : PyData.bulk (dictPy l) ≤ 80 := by
      unfold dictPy
      simp only [PyData.bulk]
      omega
    have : (13 + 2) * PyData.bulk (dictPy l) ≤ (13 + 2) * 80 := Nat.mul_le_mul_left _ e
    rw [sizeLine_eq]
    omega
  · unfold dictPy
    simp only [PyData.depth]
    omega

/-! ### what the law holds right -/
local macro_rules | `(tactic| walk_at "x1") => `(tactic| first
  | with_reducible refine x_dnewO ?_
  | with_reducible refine x_dput ?_
  | with_reducible refine x_dix ?_
  | with_reducible refine x_sortedD ?_
  | with_reducible refine x_star ?_
  | with_reducible refine x_starT ?_
  | with_reducible refine x_reprD ?_
  | with_reducible refine x_frzD ?_)
theorem rows_sz {l : List (Key × D)} (h1 : RoomsOk l 4) {ys : List Str} (pm : ys.Perm (keysT l)) : ((ys.map (rowT l)).map (·.length)).sum + (ys.map (rowT l)).length * (Str.ofString "").length ≤ 16777216 := by
  have hl : ys.length ≤ 4 := by rw [pm.length_eq]; unfold keysT; rw [List.length_map]; exact h1.len
  have hm : ∀ x ∈ ys.map (rowT l), x.length ≤ 6303 := fun x hx => by
    obtain ⟨y, hy, rfl⟩ := List.mem_map.mp hx
    obtain ⟨o, n, g, a1, a2, a3, rt⟩ := get_of h1 (pm.mem_iff.mp hy)
    have z1 : n.natAbs.log2 < 1920 := Nat.lt_trans (PySem.Flt.log2_lt_of (k := 250) (by decide) (by omega)) (by decide)
    have z2 : y.length ≤ 640 := Nat.le_trans a1.len.2 (by decide)
    have z3 : o.length ≤ 640 := Nat.le_trans a2.len.2 (by decide)
    have := roomT_len z2 z3 z1
    rw [rt, len_app, show (Str.ofString "\n").length = 1 by decide +kernel]
    omega
  have hs := sum_len hm
  rw [List.length_map] at hs
  rw [List.length_map, show (Str.ofString "").length = 0 by decide +kernel]
  omega
theorem len_show_rooms : ∀ ds Q, wShowRooms ds Q → ds.length = 1 := fun ds Q ⟨l, h, _⟩ => by rw [h]; rfl
def wRight : WUn := wDraw 150 fun r => r = .f (.bl true)
theorem mono__law_right : MonoU2 wRight := mono_draw
theorem ok_right (T : Txt K mg) (c_show_rooms : Cal P w K mg base 3 "show_rooms" (spW K tabs (liftF wShowRooms))) (k_show_rooms : CalK P w K mg base 3 "show_rooms" (spW K tabs (liftF wShowRooms)) ["rooms"]) (c__law_rooms : Cal P w K mg base 3 "_law_rooms" (spW K tabs (liftU wRooms)))
    (c__law_rows : Cal P w K mg base 1 "_law_rows" (spW K tabs (liftF wRows))) (c__law_otherwise : Cal P w K mg base 2 "_law_otherwise" (spW K tabs (liftU wOther))) (A : At K mg "_law_right" s__law_right ["urn"]) : CalG P w K mg base 4 "_law_right" (spW K tabs (liftU wRight)) := by
  refine ofG A fun f fd F => fx_fnUG F sc__law_right (fun o ds Q ⟨n, h, _⟩ => by rw [h]; rfl) fun cdv A outer s H E TT P0 σ0 hcd hgd hr => ⟨_, (gss_cons (gs_setE (i := 1) sc__law_right.nd rfl (Or.inl rfl) (ge_callU c__law_rooms hr (by decide) rfl rfl rfl mono__law_rooms (pv 0) gd_nil))
      (gss_cons (gs_setE (i := 2) sc__law_right.nd rfl (Or.inl rfl) (ge_reprD hgd (u101 hr) rfl T.z_repr (GE.of_pure (gp_var (pv 1)))))
      (gss_cons (gs_setE (i := 3) sc__law_right.nd rfl (Or.inl rfl) (ge_join (GE.of_pure gp_str) (ge_callF c__law_rows hr (by decide) rfl rfl rfl mono__law_rows (gd_cons (GE.of_pure (gp_var (pv 1))) gd_nil))))
      (gss_cons (gs_for PassesOwn.never rfl (gi_list (ge_lstD (gd_cons (ge_callF c_show_rooms hr (by decide) rfl rfl rfl mono_show_rooms (gd_cons (GE.of_pure (gp_var (pv 1))) gd_nil)) (gd_cons (ge_ckF k_show_rooms hr (by decide) rfl rfl rfl mono_show_rooms len_show_rooms (gkd_cons (ge_callU c__law_otherwise hr (by decide) rfl rfl rfl mono__law_otherwise (pv 0) (gd_cons (GE.of_pure (gp_var (pv 1))) gd_nil)) gkd_nil)) gd_nil)))) (gg_name (pg_name (i := 4) sc__law_right.nd rfl (Or.inl rfl)) rfl)
      (gss_one (gs_if (GW.gt (gw_or (gt_not (gt_tru (ge_cbB cax_isi (by rfl) T.z_isinstance (by decide +kernel) (gd_cons (GE.of_pure (gp_var (pv 4))) (gd_cons (GE.of_pure (gp_ty (n := "str") (by rfl) T.z_str (by decide +kernel))) gd_nil))))) (gw_or1 (gt_cmpP opx_neS (gp_var (pv 4)) (gp_var (pv 3)) (nomark _)))))
      (gss_one (gs_ret (GE.of_pure gp_bl)))
      gss_nil)))
      (gss_one (gs_ret (ge_cmp opx_eqS (ge_reprD hgd (u101 hr) rfl T.z_repr (GE.of_pure (gp_var (pv 1)))) (GE.of_pure (gp_var (pv 2))) (nomark _)))))))), fun o ds Q ⟨n, h, u, hn, q⟩ => ?_⟩
  subst h
  refine x_start (e := [some (.own o), none, none, none, none]) rfl ?_
  walk_at "x"
  refine ⟨n, rfl, u, by omega, fun r o1 hr1 u1 => ?_⟩
  obtain ⟨l, rfl, rk⟩ := hr1
  walk_at "x"
  refine ⟨l, rfl, repr_ok rk, ?_⟩
  walk_at "x"
  refine ⟨l, rfl, rk, fun ys pm so => ?_⟩
  walk_at "x"
  refine ⟨_, ys.map (rowT l), .inl rfl, rfl, rows_sz rk pm, ?_⟩
  walk_at "x"
  refine ⟨l, rfl, rk, fun y2 pm2 so2 => ?_⟩
  rw [sorted_uniq so2 so (pm2.trans pm.symm)]
  walk_at "x"
  refine ⟨_, l, rfl, u1, by omega, rk, fun l' o2 pt u2 => ?_⟩
  walk_at "x"
  refine ⟨l', rfl, pt.ok, fun y3 pm3 so3 => ?_⟩
  have pk : (keysT l').Perm (keysT l) := by have := pt.pm; rwa [List.append_nil] at this
  have e3 : y3 = ys := sorted_uniq so3 so ((pm3.trans pk).trans pm.symm)
  have er : y3.map (rowT l') = ys.map (rowT l) := by
    rw [← e3]
    refine List.map_congr_left fun y hy => ?_
    unfold rowT
    rw [pt.same y (pm3.mem_iff.mp hy)]
  rw [er]
  generalize Txt.join (Str.ofString "") (ys.map (rowT l)) = due
  walk_at "x"
  refine ⟨fun i e => ∃ x4, e = [some (.own o2), some (.f (dicD l)), some (.f (.str (dictPy l).shown)), some (.f (.str due)), x4], ⟨_, rfl⟩, ?_, ?_⟩
  · rintro i d e hd ⟨x4, rfl⟩
    have hd : d = .str due := by
      match i, hd with
      | 0, hd => cases hd; rfl
      | 1, hd => cases hd; rfl
      | k + 2, hd => cases hd
    subst hd
    walk_at "x"
    refine x_neS ?_
    rw [show decide (due = due) = true from decide_eq_true rfl]
    walk_at "x"
    exact ⟨_, rfl⟩
  rintro e ⟨x4, rfl⟩
  walk_at "x"
  refine ⟨l, rfl, repr_ok rk, ?_⟩
  walk_at "x"
  refine x_eqS ?_
  rw [show decide ((dictPy l).shown = (dictPy l).shown) = true from decide_eq_true rfl]
  walk_at "x"
  exact q _ _ rfl (u2.mono (by omega))
theorem cut_len4 {ds : List D} {lo hi : Option Int} : (Fx.cutD ds lo hi).length ≤ ds.length := by
  unfold Fx.cutD
  rw [List.length_take, List.length_drop]
  omega
theorem cut_mem4 {ds : List D} {lo hi : Option Int} {d : D} (h : d ∈ Fx.cutD ds lo hi) : d ∈ ds := List.mem_of_mem_drop (List.mem_of_mem_take h)
theorem fn_law (T : Txt K mg) (c__law_urn : Cal P w K mg base 1 "_law_urn" (spW K tabs (liftF wUrn))) (c__law_right : CalG P w K mg base 4 "_law_right" (spW K tabs (liftU wRight))) {f : Addr} {fd : FuncData} (F : Fun K "law" "law" s_law f fd) : FnG P w K mg base 5 f fd ["script"] (spW K tabs (liftF Fx.wLaw)) := by
  refine fx_fnFG F sc_law (fun ds Q ⟨ns, h, _⟩ => by rw [h]; rfl) fun cdv A outer s H E TT P0 σ0 hcd hgd hr => ⟨_, (gss_cons (gs_for PassesOwn.never rfl (gi_enum rfl T.z_enumerate (GD.ga (gd_cons (ge_sl (ge_op opx_add (GE.of_pure (gp_var (pv 0))) (ge_lstD (gd_cons (GE.of_pure gp_int) gd_nil))) go_none (go_some (ge_cbB (cax_max2 rfl) (by rfl) T.z_max (by decide +kernel) (gd_cons (GE.of_pure gp_int) (gd_cons (ge_cbB (cax_min2 rfl) (by rfl) T.z_min (by decide +kernel) (gd_cons (ge_cbB1 cax_len (by rfl) T.z_len (by decide +kernel) (pv 0)) (gd_cons (GE.of_pure gp_int) gd_nil))) gd_nil))))) gd_nil))) (gg_tup (n := 2) rfl (ggs_cons (pg_name (i := 1) sc_law.nd rfl (Or.inl rfl)) rfl (ggs_cons (pg_name (i := 2) sc_law.nd rfl (Or.inl rfl)) rfl ggs_nil)))
      (gss_one (gs_if (gt_not (gt_tru (ge_callVG c__law_right hgd hr (by decide) rfl rfl rfl mono__law_right (ge_callF c__law_urn hr (by decide) rfl rfl rfl mono__law_urn (gd_cons (GE.of_pure (gp_var (pv 2))) (gd_cons (GE.of_pure (gp_var (pv 1))) gd_nil))) gd_nil)))
      (gss_one (gs_ret (GE.of_pure gp_bl)))
      gss_nil)))
      (gss_one (gs_ret (GE.of_pure gp_bl)))), fun ds Q ⟨ns, h, hn, q⟩ => ?_⟩
  subst h
  refine x_start (e := [some (.f (.lst (ns.map D.int))), none, none]) rfl ?_
  walk_at "x"
  refine x_slL rfl ?_
  walk_at "x"
  generalize hcl : Fx.cutD _ _ _ = cl
  have hlen : cl.length ≤ 64 := by
    rw [← hcl]
    refine Nat.le_trans cut_len4 ?_
    rw [List.length_append, List.length_map]
    simp only [List.length_cons, List.length_nil]
    omega
  have hint : ∀ x ∈ cl, ∃ c, x = D.int c := fun x hx => by
    rw [← hcl] at hx
    rcases List.mem_append.mp (cut_mem4 hx) with z | z
    · obtain ⟨c, _, rfl⟩ := List.mem_map.mp z
      exact ⟨c, rfl⟩
    · exact ⟨0, List.mem_singleton.mp z⟩
  clear hcl
  refine ⟨fun i e => ∃ x1 x2, e = [some (.f (.lst (ns.map D.int))), x1, x2], ⟨none, none, rfl⟩, ?_, ?_⟩
  · rintro i d e hd ⟨x1, x2, rfl⟩
    rw [List.getElem?_mapIdx] at hd
    cases hx : cl[i]? with
    | none => rw [hx] at hd; cases hd
    | some x =>
      rw [hx] at hd
      cases hd
      obtain ⟨c, rfl⟩ := hint x (List.mem_of_getElem? hx)
      have hi := (List.getElem?_eq_some_iff.mp hx).1
      walk_at "x"
      refine ⟨c, i, rfl, by omega, by omega, fun o u => ?_⟩
      walk_at "x"
      refine ⟨0, rfl, u, by omega, fun r o' hr u' => ?_⟩
      subst hr
      walk_at "x"
      exact ⟨_, _, rfl⟩
  · rintro e ⟨x1, x2, rfl⟩
    walk_at "x"
    exact q

end
end K04

namespace K04
open PySem PySem.Spec PyProof.Rows L2 L2H Lk Evl Fx


section
theorem glue {l : PySem.W.OpenLaw} {w : World} {K : PySem.W.Frag} {h : Heap} {mg : Str → Option Value} {fa : Addr} {fd : FuncData} (T : Txt K mg)
    (A1 : At K mg "show_rooms" s_show_rooms ["rooms"]) (B1 : AtK K mg "show_rooms" s_show_rooms ["rooms"]) (A2 : At K mg "_show_room" s__show_room ["name", "held"]) (A3 : At K mg "_show_pairs" s__show_pairs ["words", "parts"]) (A4 : At K mg "_law_urn" s__law_urn ["cell", "k"]) (A5 : At K mg "_law_lot" s__law_lot ["urn", "many"]) (A6 : At K mg "_law_named" s__law_named ["urn"])
    (A7 : At K mg "_law_worth" s__law_worth ["urn"]) (A8 : At K mg "_law_rooms" s__law_rooms ["urn"]) (A9 : At K mg "_law_rows" s__law_rows ["hall"]) (A10 : At K mg "_law_otherwise" s__law_otherwise ["urn", "hall"]) (A11 : At K mg "_law_right" s__law_right ["urn"])
    (F : Fun K "law" "law" s_law fa fd) (hb : ∀ (s : Shared) (u : Value), BindsTo s fd ⟨[u], []⟩ [("script", u)]) : LawAtG l w K 5 63 "script" mg h fa := by
  refine law_atG (cs := []) nofun nofun nofun hb fun base _ _ TB => ?_
  show FnG l.prog w K mg base 5 fa fd ["script"] (spW K [] (liftF Fx.wLaw))
  have c_urn := ok_urn (P := l.prog) (w := w) (base := base) (tabs := []) T A4
  have c_lot := ok_lot (P := l.prog) (w := w) (base := base) (tabs := []) A5
  have c_named := ok_named T c_lot A6
  have c_worth := ok_worth T c_lot A7
  have c_rooms := ok_rooms T c_lot c_named c_worth A8
  have c_rows := ok_rows (P := l.prog) (w := w) (base := base) (tabs := []) T A9
  have c_other := ok_other T c_lot A10
  have c_pairs := ok_pairs (P := l.prog) (w := w) (base := base) (tabs := []) T A3
  have c_room := ok_show_room T c_pairs A2
  have c_show := ok_show_rooms T c_room A1
  have k_show := kw_show_rooms T c_room B1
  have c_right := ok_right T c_show k_show c_rooms c_rows c_other A11
  exact fn_law T c_urn c_right F
end
theorem all_mk {l : PySem.W.OpenLaw} {w : World} {K : PySem.W.Frag} {h : Heap} {mg : Str → Option Value} {fa : Addr} (KX : K.In h) (G : h.Ns mainGlobals mg) (hfa : mg "law" = some (.ref fa))
    {f1 f2 f3 f4 f5 f6 f7 f8 f9 f10 f11 f12 : Addr} {od1 an1 od2 an2 od3 an3 od4 an4 od5 an5 od6 an6 od7 an7 od8 an8 od9 an9 od10 an10 od11 an11 od12 an12 : Option Addr} {sl1 sl2 sl3 sl4 sl5 sl6 sl7 sl8 sl9 sl10 sl11 sl12 : Array (Option Value)}
    {oc1 kV1 dc1 pm1 ct1 cd1 oc2 kV2 dc2 pm2 ct2 cd2 oc3 kV3 dc3 pm3 ct3 cd3 oc4 kV4 dc4 pm4 ct4 cd4 oc5 kV5 dc5 pm5 ct5 cd5 oc6 kV6 dc6 pm6 ct6 cd6 oc7 kV7 dc7 pm7 ct7 cd7 oc8 kV8 dc8 pm8 ct8 cd8 oc9 kV9 dc9 pm9 ct9 cd9 oc10 kV10 dc10 pm10 ct10 cd10 oc11 kV11 dc11 pm11 ct11 cd11 oc12 kV12 dc12 pm12 ct12 cd12 : Value}
    (a1 : PySem.W.nsIn K mainGlobals "show_rooms" = some (some (.ref f1)))
    (l1 : K.lookup f1 = some ⟨oc1, od1, .func (PySem.W.fnOf "show_rooms" "show_rooms" (defArgs s_show_rooms) (defBody s_show_rooms) (defScope s_show_rooms) .none kV1 dc1 pm1 an1 cd1 ct1), sl1⟩)
    (c1 : PySem.W.codeIn K cd1 "show_rooms" = true)
    (k1 : PySem.W.keepIn K (.ref f1) = true)
    (a2 : PySem.W.nsIn K mainGlobals "_show_room" = some (some (.ref f2)))
    (l2 : K.lookup f2 = some ⟨oc2, od2, .func (PySem.W.fnOf "_show_room" "_show_room" (defArgs s__show_room) (defBody s__show_room) (defScope s__show_room) .none kV2 dc2 pm2 an2 cd2 ct2), sl2⟩)
    (c2 : PySem.W.codeIn K cd2 "_show_room" = true)
    (k2 : PySem.W.keepIn K (.ref f2) = true)
    (a3 : PySem.W.nsIn K mainGlobals "_show_pairs" = some (some (.ref f3)))
    (l3 : K.lookup f3 = some ⟨oc3, od3, .func (PySem.W.fnOf "_show_pairs" "_show_pairs" (defArgs s__show_pairs) (defBody s__show_pairs) (defScope s__show_pairs) .none kV3 dc3 pm3 an3 cd3 ct3), sl3⟩)
    (c3 : PySem.W.codeIn K cd3 "_show_pairs" = true)
    (k3 : PySem.W.keepIn K (.ref f3) = true)
    (a4 : PySem.W.nsIn K mainGlobals "_law_urn" = some (some (.ref f4)))
    (l4 : K.lookup f4 = some ⟨oc4, od4, .func (PySem.W.fnOf "_law_urn" "_law_urn" (defArgs s__law_urn) (defBody s__law_urn) (defScope s__law_urn) .none kV4 dc4 pm4 an4 cd4 ct4), sl4⟩)
    (c4 : PySem.W.codeIn K cd4 "_law_urn" = true)
    (k4 : PySem.W.keepIn K (.ref f4) = true)
    (a5 : PySem.W.nsIn K mainGlobals "_law_lot" = some (some (.ref f5)))
    (l5 : K.lookup f5 = some ⟨oc5, od5, .func (PySem.W.fnOf "_law_lot" "_law_lot" (defArgs s__law_lot) (defBody s__law_lot) (defScope s__law_lot) .none kV5 dc5 pm5 an5 cd5 ct5), sl5⟩)
    (c5 : PySem.W.codeIn K cd5 "_law_lot" = true)
    (k5 : PySem.W.keepIn K (.ref f5) = true)
    (a6 : PySem.W.nsIn K mainGlobals "_law_named" = some (some (.ref f6)))
    (l6 : K.lookup f6 = some ⟨oc6, od6, .func (PySem.W.fnOf "_law_named" "_law_named" (defArgs s__law_named) (defBody s__law_named) (defScope s__law_named) .none kV6 dc6 pm6 an6 cd6 ct6), sl6⟩)
    (c6 : PySem.W.codeIn K cd6 "_law_named" = true)
    (k6 : PySem.W.keepIn K (.ref f6) = true)
    (a7 : PySem.W.nsIn K mainGlobals "_law_worth" = some (some (.ref f7)))
    (l7 : K.lookup f7 = some ⟨oc7, od7, .func (PySem.W.fnOf "_law_worth" "_law_worth" (defArgs s__law_worth) (defBody s__law_worth) (defScope s__law_worth) .none kV7 dc7 pm7 an7 cd7 ct7), sl7⟩)
    (c7 : PySem.W.codeIn K cd7 "_law_worth" = true)
    (k7 : PySem.W.keepIn K (.ref f7) = true)
    (a8 : PySem.W.nsIn K mainGlobals "_law_rooms" = some (some (.ref f8)))
    (l8 : K.lookup f8 = some ⟨oc8, od8, .func (PySem.W.fnOf "_law_rooms" "_law_rooms" (defArgs s__law_rooms) (defBody s__law_rooms) (defScope s__law_rooms) .none kV8 dc8 pm8 an8 cd8 ct8), sl8⟩)
    (c8 : PySem.W.codeIn K cd8 "_law_rooms" = true)
    (k8 : PySem.W.keepIn K (.ref f8) = true)
    (a9 : PySem.W.nsIn K mainGlobals "_law_rows" = some (some (.ref f9)))
    (l9 : K.lookup f9 = some ⟨oc9, od9, .func (PySem.W.fnOf "_law_rows" "_law_rows" (defArgs s__law_rows) (defBody s__law_rows) (defScope s__law_rows) .none kV9 dc9 pm9 an9 cd9 ct9), sl9⟩)
    (c9 : PySem.W.codeIn K cd9 "_law_rows" = true)
    (k9 : PySem.W.keepIn K (.ref f9) = true)
    (a10 : PySem.W.nsIn K mainGlobals "_law_otherwise" = some (some (.ref f10)))
    (l10 : K.lookup f10 = some ⟨oc10, od10, .func (PySem.W.fnOf "_law_otherwise" "_law_otherwise" (defArgs s__law_otherwise) (defBody s__law_otherwise) (defScope s__law_otherwise) .none kV10 dc10 pm10 an10 cd10 ct10), sl10⟩)
    (c10 : PySem.W.codeIn K cd10 "_law_otherwise" = true)
    (k10 : PySem.W.keepIn K (.ref f10) = true)
    (a11 : PySem.W.nsIn K mainGlobals "_law_right" = some (some (.ref f11)))
    (l11 : K.lookup f11 = some ⟨oc11, od11, .func (PySem.W.fnOf "_law_right" "_law_right" (defArgs s__law_right) (defBody s__law_right) (defScope s__law_right) .none kV11 dc11 pm11 an11 cd11 ct11), sl11⟩)
    (c11 : PySem.W.codeIn K cd11 "_law_right" = true)
    (k11 : PySem.W.keepIn K (.ref f11) = true)
    (a12 : PySem.W.nsIn K mainGlobals "law" = some (some (.ref f12)))
    (l12 : K.lookup f12 = some ⟨oc12, od12, .func (PySem.W.fnOf "law" "law" (defArgs s_law) (defBody s_law) (defScope s_law) .none kV12 dc12 pm12 an12 cd12 ct12), sl12⟩)
    (c12 : PySem.W.codeIn K cd12 "law" = true)
    (k12 : PySem.W.keepIn K (.ref f12) = true)
    (z_enumerate : PySem.W.nsIn K mainGlobals "enumerate" = some none)
    (z_isinstance : PySem.W.nsIn K mainGlobals "isinstance" = some none)
    (z_len : PySem.W.nsIn K mainGlobals "len" = some none)
    (z_max : PySem.W.nsIn K mainGlobals "max" = some none)
    (z_min : PySem.W.nsIn K mainGlobals "min" = some none)
    (z_range : PySem.W.nsIn K mainGlobals "range" = some none)
    (z_repr : PySem.W.nsIn K mainGlobals "repr" = some none)
    (z_sorted : PySem.W.nsIn K mainGlobals "sorted" = some none)
    (z_str : PySem.W.nsIn K mainGlobals "str" = some none)
    (z_zip : PySem.W.nsIn K mainGlobals "zip" = some none)
    {t2 : Tok}
    {t3 : Tok}
    {t4 : Tok}
    {p1c : Addr} {od1c : Option Addr} {n1c : Nat} {sl1c : Array (Option Value)}
    (g_ROOM_WORDS : PySem.W.nsIn K mainGlobals "ROOM_WORDS" = some (some (.ref p1c)))
    (o1c : K.lookup p1c = some ⟨.type "tuple", od1c, .seq #[.str "room" t2, .str "of" t3, .str "holds" t4] n1c, sl1c⟩)
    : LawAtG l w K 5 63 "script" mg h fa := by
  have T : Txt K mg := ⟨PySem.W.mg_none_of KX G z_enumerate, PySem.W.mg_none_of KX G z_isinstance, PySem.W.mg_none_of KX G z_len, PySem.W.mg_none_of KX G z_max, PySem.W.mg_none_of KX G z_min, PySem.W.mg_none_of KX G z_range, PySem.W.mg_none_of KX G z_repr, PySem.W.mg_none_of KX G z_sorted, PySem.W.mg_none_of KX G z_str, PySem.W.mg_none_of KX G z_zip, ⟨.ref p1c, _, PySem.W.mg_of KX G g_ROOM_WORDS, rfl, fun _ => (.tup (vs := [.str "room", .str "of", .str "holds"]) (.inr ⟨_, _, _, o1c, rfl, rfl, (show 3 ≤ sizeLine by decide), (.cons ⟨_, rfl⟩ (.cons ⟨_, rfl⟩ (.cons ⟨_, rfl⟩ .nil)))⟩) (.cons (.str _) (.cons (.str _) (.cons (.str _) .nil))))⟩⟩
  have F1 := fun_mk (st := s_show_rooms) l1 c1 k1
  have A_show_rooms : At K mg "show_rooms" s_show_rooms ["rooms"] := ⟨f1, _, F1, PySem.W.mg_of KX G a1, F1.binds (ps := ["rooms"]) fun _ _ _ _ _ _ us hl => match us, hl with | [_], _ => rfl⟩
  have B_show_rooms : AtK K mg "show_rooms" s_show_rooms ["rooms"] := ⟨f1, _, F1, PySem.W.mg_of KX G a1, fun s ws hl => by match ws, hl with | [_], _ => exact .of_eq rfl⟩
  have F2 := fun_mk (st := s__show_room) l2 c2 k2
  have A__show_room : At K mg "_show_room" s__show_room ["name", "held"] := ⟨f2, _, F2, PySem.W.mg_of KX G a2, F2.binds (ps := ["name", "held"]) fun _ _ _ _ _ _ us hl => match us, hl with | [_, _], _ => rfl⟩
  have F3 := fun_mk (st := s__show_pairs) l3 c3 k3
  have A__show_pairs : At K mg "_show_pairs" s__show_pairs ["words", "parts"] := ⟨f3, _, F3, PySem.W.mg_of KX G a3, F3.binds (ps := ["words", "parts"]) fun _ _ _ _ _ _ us hl => match us, hl with | [_, _], _ => rfl⟩
  have F4 := fun_mk (st := s__law_urn) l4 c4 k4
  have A__law_urn : At K mg "_law_urn" s__law_urn ["cell", "k"] := ⟨f4, _, F4, PySem.W.mg_of KX G a4, F4.binds (ps := ["cell", "k"]) fun _ _ _ _ _ _ us hl => match us, hl with | [_, _], _ => rfl⟩
  have F5 := fun_mk (st := s__law_lot) l5 c5 k5
  have A__law_lot : At K mg "_law_lot" s__law_lot ["urn", "many"] := ⟨f5, _, F5, PySem.W.mg_of KX G a5, F5.binds (ps := ["urn", "many"]) fun _ _ _ _ _ _ us hl => match us, hl with | [_, _], _ => rfl⟩
  have F6 := fun_mk (st := s__law_named) l6 c6 k6
  have A__law_named : At K mg "_law_named" s__law_named ["urn"] := ⟨f6, _, F6, PySem.W.mg_of KX G a6, F6.binds (ps := ["urn"]) fun _ _ _ _ _ _ us hl => match us, hl with | [_], _ => rfl⟩
  have F7 := fun_mk (st := s__law_worth) l7 c7 k7
  have A__law_worth : At K mg "_law_worth" s__law_worth ["urn"] := ⟨f7, _, F7, PySem.W.mg_of KX G a7, F7.binds (ps := ["urn"]) fun _ _ _ _ _ _ us hl => match us, hl with | [_], _ => rfl⟩
  have F8 := fun_mk (st := s__law_rooms) l8 c8 k8
  have A__law_rooms : At K mg "_law_rooms" s__law_rooms ["urn"] := ⟨f8, _, F8, PySem.W.mg_of KX G a8, F8.binds (ps := ["urn"]) fun _ _ _ _ _ _ us hl => match us, hl with | [_], _ => rfl⟩
  have F9 := fun_mk (st := s__law_rows) l9 c9 k9
  have A__law_rows : At K mg "_law_rows" s__law_rows ["hall"] := ⟨f9, _, F9, PySem.W.mg_of KX G a9, F9.binds (ps := ["hall"]) fun _ _ _ _ _ _ us hl => match us, hl with | [_], _ => rfl⟩
  have F10 := fun_mk (st := s__law_otherwise) l10 c10 k10
  have A__law_otherwise : At K mg "_law_otherwise" s__law_otherwise ["urn", "hall"] := ⟨f10, _, F10, PySem.W.mg_of KX G a10, F10.binds (ps := ["urn", "hall"]) fun _ _ _ _ _ _ us hl => match us, hl with | [_, _], _ => rfl⟩
  have F11 := fun_mk (st := s__law_right) l11 c11 k11
  have A__law_right : At K mg "_law_right" s__law_right ["urn"] := ⟨f11, _, F11, PySem.W.mg_of KX G a11, F11.binds (ps := ["urn"]) fun _ _ _ _ _ _ us hl => match us, hl with | [_], _ => rfl⟩
  have F12 := fun_mk (st := s_law) l12 c12 k12
  have A_law : At K mg "law" s_law ["script"] := ⟨f12, _, F12, PySem.W.mg_of KX G a12, F12.binds (ps := ["script"]) fun _ _ _ _ _ _ us hl => match us, hl with | [_], _ => rfl⟩
  have e := hfa.symm.trans (PySem.W.mg_of KX G a12)
  cases e
  exact glue T A_show_rooms B_show_rooms A__show_room A__show_pairs A__law_urn A__law_lot A__law_named A__law_worth A__law_rooms A__law_rows A__law_otherwise A__law_right F12 (fun s v => .of_eq rfl)
--@ARGS a1 l1 c1 k1 a2 l2 c2 k2 a3 l3 c3 k3 a4 l4 c4 k4 a5 l5 c5 k5 a6 l6 c6 k6 a7 l7 c7 k7 a8 l8 c8 k8 a9 l9 c9 k9 a10 l10 c10 k10 a11 l11 c11 k11 a12 l12 c12 k12 z_enumerate z_isinstance z_len z_max z_min z_range z_repr z_sorted z_str z_zip g_ROOM_WORDS o1c
end K04
open PySem PySem.W PyProof.Rows
set_option maxRecDepth 100000 in
set_option maxHeartbeats 0 in
theorem PySem.Challenge.cw_leavechain_k04_rooms_written_holds : PySem.Challenge.rw_leavechain_k04_rooms_written.Holds := by
  w_on; o_law; k_head; (case hw => w_witness2)
  k_fill
  refine Lk.walkXG (l := PySem.Challenge.rw_leavechain_k04_rooms_written) (n := 63) (k := 5) (x := "script") rfl (by decide) rfl ⟨rfl, by decide, by decide⟩ (fun w h Y => PySem.W.kIn_of Y) ?F
  case F =>
    intro w mg mb fa s0 h Gr Y KX G hmg
    refine' K04.all_mk KX G hmg ?a1 ?l1 ?c1 ?k1 ?a2 ?l2 ?c2 ?k2 ?a3 ?l3 ?c3 ?k3 ?a4 ?l4 ?c4 ?k4 ?a5 ?l5 ?c5 ?k5 ?a6 ?l6 ?c6 ?k6 ?a7 ?l7 ?c7 ?k7 ?a8 ?l8 ?c8 ?k8 ?a9 ?l9 ?c9 ?k9 ?a10 ?l10 ?c10 ?k10 ?a11 ?l11 ?c11 ?k11 ?a12 ?l12 ?c12 ?k12 ?z_enumerate ?z_isinstance ?z_len ?z_max ?z_min ?z_range ?z_repr ?z_sorted ?z_str ?z_zip ?g_ROOM_WORDS ?o1c
    (case a1 => k_is); (case l1 => k_is); (case c1 => k_is); (case k1 => k_is); (case a2 => k_is); (case l2 => k_is)
    (case c2 => k_is); (case k2 => k_is); (case a3 => k_is); (case l3 => k_is); (case c3 => k_is); (case k3 => k_is)
    (case a4 => k_is); (case l4 => k_is); (case c4 => k_is); (case k4 => k_is); (case a5 => k_is); (case l5 => k_is)
    (case c5 => k_is); (case k5 => k_is); (case a6 => k_is); (case l6 => k_is); (case c6 => k_is); (case k6 => k_is)
    (case a7 => k_is); (case l7 => k_is); (case c7 => k_is); (case k7 => k_is); (case a8 => k_is); (case l8 => k_is)
    (case c8 => k_is); (case k8 => k_is); (case a9 => k_is); (case l9 => k_is); (case c9 => k_is); (case k9 => k_is)
    (case a10 => k_is); (case l10 => k_is); (case c10 => k_is); (case k10 => k_is); (case a11 => k_is); (case l11 => k_is)
    (case c11 => k_is); (case k11 => k_is); (case a12 => k_is); (case l12 => k_is); (case c12 => k_is); (case k12 => k_is)
    (case z_enumerate => k_is); (case z_isinstance => k_is); (case z_len => k_is); (case z_max => k_is); (case z_min => k_is); (case z_range => k_is)
    (case z_repr => k_is); (case z_sorted => k_is); (case z_str => k_is); (case z_zip => k_is); (case g_ROOM_WORDS => k_is); (case o1c => k_is)

