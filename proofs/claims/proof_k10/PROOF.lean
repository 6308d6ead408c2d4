import PyProof.Rows.All
import Wide.All
import OpenK.AllK
import Wide.FinOn
import HandS.ForMost
import HandS.IsInst
import PySem.Challenge.RW_placedanyhow_k10_values_of_expressions
set_option Elab.async false
set_option linter.all false
set_option maxRecDepth 100000
set_option maxHeartbeats 4000000
namespace Y
open PySem L2

/-! ### rules joined -/
section
variable {X : Cx}
def rAddA (K : PySem.W.Frag) : R2 := fun x y H Q => rI0 (fun i j => .int (i + j)) x y H Q ∨ (∃ i j, x = V.str i ∧ y = V.str j ∧ i.length + j.length ≤ sizeLine ∧ Q (.str (i ++ j)) H) ∨ rCat x y H Q ∨ rCatT K x y H Q
theorem op_addA : OpR X (binaryOp .Add) (rAddA X.K) := op_add.or (op_add_str.or (op_cat.or op_catT))
def rEqA (K : PySem.W.Frag) : R2 := fun x y H Q => rEq x y H Q ∨ rEqD K x y H Q
def rNeA (K : PySem.W.Frag) : R2 := fun x y H Q => rNe x y H Q ∨ rNeD K x y H Q
theorem op_eqA (hu : X.A.units + 64 < cLine) : OpR X (compareOp .Eq) (rEqA X.K) := op_eq.or (op_eqD hu)
theorem op_neA (hu : X.A.units + 64 < cLine) : OpR X (compareOp .NotEq) (rNeA X.K) := op_ne.or (op_neD hu)
def rLenA (K : PySem.W.Frag) : List V → Hp → VK → Prop := fun xs H Q => (∃ p ys, xs = [V.ref p] ∧ (SqL K H p ys ∨ SqT K H p ys) ∧ Q (.int ys.length) H) ∨ ∃ z, xs = [V.str z] ∧ z.length ≤ sizeLine ∧ Q (.int z.length) H
theorem call_lenA : CallR X (.builtin "len") (rLenA X.K) := call_len_seq.or call_len_str
def rSlA (K : PySem.W.Frag) : V → Option Int → Option Int → Hp → VK → Prop := fun x lo hi H Q => rSlL K x lo hi H Q ∨ rSlT K x lo hi H Q
theorem sl_any : SlR X (rSlA X.K) := sl_list.or sl_tup
theorem hu64 {A : Around} {k : Nat} (hr : Room k A) : A.units + 64 < cLine := by have := hr.un; omega
theorem pe_globC {x : Str} {n : Int} {pos : Pos} (hg : Gl X x) (hm : ∃ t, X.mg x = some (.int n t)) (hd : (x == ("__debug__" : Str)) = false := by decide) : PE X (.Name x pos) (tC (.int n)) := by
  obtain ⟨t, h⟩ := hm
  exact pe_glob hg h ⟨t, rfl⟩ hd
theorem pe_ty {x : Str} {n : String} {pos : Pos} (hg : Gl X x) (hm : X.mg x = none) (hv : bootBuiltins x = some (.type n)) (hn : x ≠ "__name__" := by decide) (hd : (x == ("__debug__" : Str)) = false := by decide) : PE X (.Name x pos) (tC (.ty n)) := pe_bltn hg hm hv rfl hn hd
end

section
variable {X : Cx}
def rIsN : R2 := fun x y H Q => y = .non ∧ Q (.bl (decide (x = .non))) H
def rNotN : R2 := fun x y H Q => y = .non ∧ Q (.bl (!decide (x = .non))) H
theorem op_isN1 : OpR X (compareOp .Is) rIsN := op_isN
theorem op_notN1 : OpR X (compareOp .IsNot) rNotN := op_notN
end
section
variable {X : Cx}
def rInt : List V → Hp → VK → Prop := fun xs H Q => (∃ i, xs = [V.int i] ∧ Q (.int i) H) ∨ ∃ k, xs = [.bl k] ∧ Q (.int (if k then 1 else 0)) H
def rAbs : List V → Hp → VK → Prop := fun xs H Q => ∃ i, xs = [V.int i] ∧ Q (.int (if i < 0 then -i else i)) H
def rListOf (K : PySem.W.Frag) : List V → Hp → VK → Prop := fun xs H Q => ∃ p ys, xs = [V.ref p] ∧ (SqL K H p ys ∨ SqT K H p ys) ∧ ∀ l, H l = none → Q (.ref l) (upd H l (.lst ys))
theorem call_intA : CallR X (.type "int") rInt := call_int1
theorem call_absA : CallR X (.builtin "abs") rAbs := call_abs
theorem call_listA : CallR X (.type "list") (rListOf X.K) := call_list_of
end
/-! ### defs -/
section
variable (P : Program) (w : World) (K : PySem.W.Frag) (mg : Str → Option Value) (base : Heap)
/-- a def of the text as it stands behind the top -/
def Dn (x : Str) (st : Stmt) (ps : List Str) : Prop := ∃ f fd, Fun K x x st f fd ∧ mg x = some (.ref f) ∧ Binds K fd ps []
/-- a def that keeps its promise -/
def Cal (x : Str) (k : Nat) (ps : List Str) (sp : Sp) : Prop := ∃ f fd, FnOk P w K mg base CX0 k f fd ps sp ∧ mg x = some (.ref f) ∧ PySem.W.keepIn K (.ref f) = true ∧ Binds K fd ps []
end
section
variable {P : Program} {w : World} {K : PySem.W.Frag} {mg : Str → Option Value} {base : Heap}
theorem Dn.ok {x : Str} {st : Stmt} {N ps : List Str} {k : Nat} {sp : Sp} (D : Dn K mg x st ps) (S : FnScope N ps (defScope st)) (len : ∀ vs H Q E, sp vs H Q E → vs.length = ps.length)
    (hbody : ∀ (f : Addr) (cdv : Value) (A : Around) (outer : List Env) (s : Shared) (H : Hp) (vs : List V) (Q : VK) (E : XK), Room k (A.deeper (PyProof.Rows.envOfC x (defScope st) s.heap.objs.size f cdv)) → sp vs H Q E →
      ∃ t, PSs (cxOf CX0 P w K mg base N x (defScope st) f cdv A outer s H E).nox (defBody st) t ∧ t { nx := fun _ H' => Q .non H', rt := Q } (start N vs) H) : Cal P w K mg base x (k + 1) ps sp := by
  obtain ⟨f, fd, F, m, b⟩ := D
  exact ⟨f, fd, F.ok S len (hbody f), m, F.kp, b⟩
theorem pe_cal {X : Cx} {x : Str} {k : Nat} {ps : List Str} {sp : Sp} {e : Expr} {es : List Expr} {t : TA} {p pos : Pos} (G : Cal X.prog X.w X.K X.mg X.base x k ps sp) (hr : Room k X.A) (hg : Gl X x) (ha : PA X (e :: es) t)
    (hdb : (x == ("__debug__" : Str)) = false := by decide) (he : starEach (e :: es) X.env = (false, eval e X.env) :: starEach es X.env := by rfl) (hpl : (backTo pos (starEach es X.env)).any (·.1) = false := by rfl) : PE X (.Call (.Name x p) (e :: es) [] pos) (tCall sp [] E0 t) := by
  obtain ⟨f, fd, F, m, kp, b⟩ := G
  exact pe_call F hr hg m kp b .nil pass0 ha hdb he hpl
theorem pe_cal0 {X : Cx} {x : Str} {k : Nat} {ps : List Str} {sp : Sp} {p pos : Pos} (G : Cal X.prog X.w X.K X.mg X.base x k ps sp) (hr : Room k X.A) (hg : Gl X x)
    (hdb : (x == ("__debug__" : Str)) = false := by decide) : PE X (.Call (.Name x p) [] [] pos) (tCall sp [] E0 tNil) := by
  obtain ⟨f, fd, F, m, kp, b⟩ := G
  exact pe_call0 F hr hg m kp b .nil pass0 hdb
end

/-! ### heaps -/
/-- all that was tracked stays -/
def Ex (H H' : Hp) : Prop := ∀ a o, H a = some o → H' a = some o
/-- all tuples stay, and all that is not at M -/
structure Kp (M : List Addr) (H H' : Hp) : Prop where
  tup : ∀ a xs, H a = some (.tup xs) → H' a = some (.tup xs)
  out : ∀ a o, a ∉ M → H a = some o → H' a = some o
theorem Ex.refl (H : Hp) : Ex H H := fun _ _ h => h
theorem Ex.trans {H H1 H2 : Hp} (a : Ex H H1) (b : Ex H1 H2) : Ex H H2 := fun x o h => b x o (a x o h)
theorem Ex.same {H H' : Hp} (e : Ex H H') : L2.Same H H' := e
theorem Ex.kp {M : List Addr} {H H' : Hp} (e : Ex H H') : Kp M H H' := ⟨fun a xs h => e a _ h, fun a o _ h => e a o h⟩
theorem Kp.refl {M : List Addr} (H : Hp) : Kp M H H := (Ex.refl H).kp
theorem Kp.trans {M : List Addr} {H H1 H2 : Hp} (a : Kp M H H1) (b : Kp M H1 H2) : Kp M H H2 := ⟨fun x o h => b.tup x o (a.tup x o h), fun x o n h => b.out x o n (a.out x o n h)⟩
theorem Kp.sub {M N : List Addr} {H H' : Hp} (a : Kp M H H') (s : ∀ x, x ∈ M → x ∈ N) : Kp N H H' := ⟨a.tup, fun x o n h => a.out x o (fun z => n (s x z)) h⟩
theorem Ex.mk {H H2 : Hp} {p : Addr} {o : HO} (h : H p = none) (e : upd H p o = H2) : Ex H H2 := fun a u ha => by
  rw [← e, upd_ne (ne_of_none ha h)]
  exact ha
theorem at_new {H H2 : Hp} {p : Addr} {o : HO} (e : upd H p o = H2) : H2 p = some o := by rw [← e]; exact upd_same
theorem Kp.set {M : List Addr} {H H2 : Hp} {p : Addr} {o : HO} (hm : p ∈ M) (ht : ∀ xs, H p ≠ some (.tup xs)) (e : upd H p o = H2) : Kp M H H2 := ⟨fun a xs h => by
  rw [← e, upd_ne (fun z => ht xs (by rw [← z]; exact h))]
  exact h, fun a u n h => by
  rw [← e, upd_ne (fun z => n (by rw [z]; exact hm))]
  exact h⟩
theorem free_back {H H' : Hp} {p : Addr} (e : Ex H H') (h : H' p = none) : H p = none := by
  cases h1 : H p with
  | none => rfl
  | some o => rw [e p o h1] at h; cases h
theorem free_backK {M : List Addr} {H H' : Hp} {p : Addr} (e : Kp M H H') (hm : p ∉ M) (h : H' p = none) : H p = none := by
  cases h1 : H p with
  | none => rfl
  | some o => rw [e.out p o hm h1] at h; cases h
theorem at_ex {H H' : Hp} {p : Addr} {o : HO} (e : Ex H H') (h : H p = some o) : H' p = some o := e p o h
theorem at_kp {M : List Addr} {H H' : Hp} {p : Addr} {o : HO} (e : Kp M H H') (hm : p ∉ M) (h : H p = some o) : H' p = some o := e.out p o hm h
theorem tup_kp {M : List Addr} {H H' : Hp} {p : Addr} {xs : List V} (e : Kp M H H') (h : H p = some (.tup xs)) : H' p = some (.tup xs) := e.tup p xs h
theorem sqt {K : PySem.W.Frag} {H : Hp} {p : Addr} {xs : List V} (h : H p = some (.tup xs)) : SqT K H p xs := Or.inl (Or.inl h)
theorem sql {K : PySem.W.Frag} {H : Hp} {p : Addr} {xs : List V} (h : H p = some (.lst xs)) : SqL K H p xs := Or.inl (Or.inl h)
theorem sl1000 {n : Nat} (h : n ≤ 100000) : n ≤ sizeLine := Nat.le_trans h (by decide)
theorem sl1000' {n : Nat} (h : n < 100000) : n < sizeLine := Nat.lt_of_lt_of_le h (by decide)

theorem at0 {α : Type} {x : α} {xs : List α} : atI (x :: xs) 0 = some x := atI_nat (j := 0) rfl
theorem at_i {α : Type} {xs : List α} {n : Int} (h0 : 0 ≤ n) (h1 : n < xs.length) : ∃ v, xs[n.toNat]? = some v ∧ atI xs n = some v := by
  have hk : n.toNat < xs.length := by omega
  have e : n = ((n.toNat : Nat) : Int) := by omega
  refine ⟨xs[n.toNat], List.getElem?_eq_getElem hk, ?_⟩
  have q : atI xs ((n.toNat : Nat) : Int) = some xs[n.toNat] := atI_nat (List.getElem?_eq_getElem hk)
  rw [← e] at q
  exact q
/-! ### readings, step by step -/
def newT (Q : VK) (xs : List V) (H : Hp) : Prop := xs.length ≤ sizeLine ∧ ∀ p, H p = none → Q (.ref p) (upd H p (.tup xs))
def newL (Q : VK) (xs : List V) (H : Hp) : Prop := xs.length ≤ sizeLine ∧ ∀ p, H p = none → Q (.ref p) (upd H p (.lst xs))
theorem cut1 (xs : List V) : cutV xs (some 1) none = xs.drop 1 := by
  unfold cutV
  rw [show HT.sIx xs.length 0 (some 1) = min 1 xs.length from HT.sIx_nat xs.length 0 1, HT.sIx_none]
  cases xs with
  | nil => rfl
  | cons x r =>
    rw [show min 1 (x :: r).length = 1 by
      rw [List.length_cons]
      omega]
    show (List.take ((x :: r).length - 1) r) = r
    rw [List.length_cons, Nat.add_sub_cancel]
    exact List.take_length
section
variable {K : PySem.W.Frag} {σ : L2.St} {H : Hp} {Q : VK} {QT : Bool → Hp → Prop} {QA : List V → Hp → Prop} {QS : L2.St → Hp → Prop} {v x y : V} {i : Nat} {ta tb te : TE} {t u c : TT} {tr : TA} {r : R2} {ts us : TS} {nx bk ct : L2.St → Hp → Prop} {rt : VK} {g : TG} {gs : TGs}
theorem r_var (h : σ[i]? = some (some v)) (q : Q v H) : tVar i σ H Q := ⟨v, h, q⟩
theorem r_c (q : Q v H) : tC v σ H Q := q
theorem r_op (q : ta σ H fun x H1 => tb σ H1 fun y H2 => r x y H2 Q) : tOp r ta tb σ H Q := q
theorem r_un {r : V → Hp → VK → Prop} (q : ta σ H fun x H1 => r x H1 Q) : tUn r ta σ H Q := q
theorem r_tup (q : tr σ H fun xs H1 => newT Q xs H1) : tTup tr σ H Q := q
theorem r_lst (q : tr σ H fun xs H1 => newL Q xs H1) : tLst tr σ H Q := q
theorem q_newT {xs : List V} (hl : xs.length ≤ 100000) (q : ∀ p Hn, H p = none → Ex H Hn → Hn p = some (.tup xs) → Q (.ref p) Hn) : newT Q xs H := ⟨sl1000 hl, fun p hp => q p _ hp (Ex.mk hp rfl) upd_same⟩
theorem q_newL {xs : List V} (hl : xs.length ≤ 100000) (q : ∀ p Hn, H p = none → Ex H Hn → Hn p = some (.lst xs) → Q (.ref p) Hn) : newL Q xs H := ⟨sl1000 hl, fun p hp => q p _ hp (Ex.mk hp rfl) upd_same⟩
theorem r_cons (q : ta σ H fun x H1 => tr σ H1 fun xs H2 => QA (x :: xs) H2) : tCons ta tr σ H QA := q
theorem r_nil (q : QA [] H) : tNil σ H QA := q
theorem r_cb {r : List V → Hp → VK → Prop} (q : tr σ H fun vs H1 => r vs H1 Q) : tCB r tr σ H Q := q
theorem r_call {sp : Sp} {E : XK} (q : tr σ H fun vs H1 => sp vs H1 Q E) : tCall sp [] E tr σ H Q := by
  have e : (fun (vs : List V) (H1 : Hp) => sp (vs ++ []) H1 Q E) = fun vs H1 => sp vs H1 Q E := by
    funext vs H1
    rw [List.append_nil]
  show tr σ H (fun vs H1 => sp (vs ++ []) H1 Q E)
  rw [e]
  exact q
theorem r_ifE (q : t σ H fun c H1 => if c = true then ta σ H1 Q else tb σ H1 Q) : tIf t ta tb σ H Q := q
theorem r_sl {r : V → Option Int → Option Int → Hp → VK → Prop} {tl th : TO} (q : te σ H fun x H1 => tl σ H1 fun l H2 => th σ H2 fun u H3 => r x l u H3 Q) : tSl r te tl th σ H Q := q
theorem r_nopart {Q : Option Int → Hp → Prop} (q : Q none H) : tNoPart σ H Q := q
theorem r_part {Q : Option Int → Hp → Prop} (q : te σ H fun x H1 => ∃ i, x = .int i ∧ Q (some i) H1) : tPart te σ H Q := q
theorem q_part {i : Int} {B : Int → Prop} (q : B i) : ∃ j, V.int i = .int j ∧ B j := ⟨i, rfl, q⟩
theorem r_dget {td ty : TE} (q : td σ H fun x H1 => ty σ H1 fun y H2 => ∃ a v, x = .ref a ∧ DGet H2 a y (some v) ∧ Q v H2) : tDGet td ty σ H Q := q
theorem q_dget {p : Addr} {kvs : List (Key × V)} {z : Str} {B : V → Prop} (h : H p = some (.dK kvs)) (hl : valV kvs (Sum.inr z) = some v) (q : B v) : ∃ a v', V.ref p = .ref a ∧ DGet H a (.str z) (some v') ∧ B v' :=
  ⟨p, v, rfl, by rw [← hl]; exact DGet.k (k := Sum.inr z) h, q⟩
theorem r_andV (q : ta σ H fun x H1 => ∃ c, x = .bl c ∧ if c = true then tb σ H1 Q else Q (.bl false) H1) : tAndV ta tb σ H Q := q
theorem r_orV (q : ta σ H fun x H1 => ∃ c, x = .bl c ∧ if c = true then Q (.bl true) H1 else tb σ H1 Q) : tOrV ta tb σ H Q := q
theorem r_notV (q : ta σ H fun x H1 => ∃ c, x = .bl c ∧ Q (.bl (!c)) H1) : tNotV ta σ H Q := q
theorem r_test (q : te σ H fun x H' => ∃ k, x = .bl k ∧ QT k H') : tTest te σ H QT := q
theorem r_tB (q : te σ H fun x H1 => ∃ c, x = .bl c ∧ QT c H1) : tB te σ H QT := q
theorem q_exb {b : Bool} {B : Bool → Prop} (q : B b) : ∃ k, V.bl b = .bl k ∧ B k := ⟨b, rfl, q⟩
theorem r_and (q : t σ H fun c H1 => if c = true then u σ H1 QT else QT false H1) : tAnd t u σ H QT := q
theorem r_or (q : t σ H fun c H1 => if c = true then QT true H1 else u σ H1 QT) : tOr t u σ H QT := q
theorem r_not (q : t σ H fun c H1 => QT (!c) H1) : tNot t σ H QT := q
theorem r_seq (q : ts ⟨us ⟨nx, rt, bk, ct⟩, rt, bk, ct⟩ σ H) : tSeq ts us ⟨nx, rt, bk, ct⟩ σ H := q
theorem r_next (q : nx σ H) : tNext ⟨nx, rt, bk, ct⟩ σ H := q
theorem r_ifS (q : c σ H fun b H1 => if b = true then ts ⟨nx, rt, bk, ct⟩ σ H1 else us ⟨nx, rt, bk, ct⟩ σ H1) : tIfS c ts us ⟨nx, rt, bk, ct⟩ σ H := q
theorem r_asg (q : te σ H fun x H1 => g x σ H1 nx) : tAsg te g ⟨nx, rt, bk, ct⟩ σ H := q
theorem r_drop (q : te σ H fun _ H1 => nx σ H1) : tDrop te ⟨nx, rt, bk, ct⟩ σ H := q
theorem r_ret (q : te σ H rt) : tRet te ⟨nx, rt, bk, ct⟩ σ H := q
theorem r_retN (q : rt .non H) : tRetN ⟨nx, rt, bk, ct⟩ σ H := q
theorem r_gname (q : QS (σ.set i (some v)) H) : gName i v σ H QS := q
theorem r_gnil (q : QS σ H) : gNil [] σ H QS := ⟨rfl, q⟩
theorem r_gcons {vs : List V} (q : g v σ H fun σ' H' => gs vs σ' H' QS) : gCons g gs (v :: vs) σ H QS := ⟨v, vs, rfl, q⟩
theorem r_gtup {p : Addr} {xs : List V} {n : Nat} (h : SqT K H p xs) (hl : xs.length = n) (q : gs xs σ H QS) : gTup K n gs (.ref p) σ H QS := ⟨p, xs, rfl, h, hl, q⟩
theorem r_gsub {to ti : TE} {s : TSet} (q : to σ H fun o H1 => ti σ H1 fun i H2 => s o i v H2 fun H3 => QS σ H3) : gSub to ti s v σ H QS := q
theorem r_bm {T : String} {r : V → List V → Hp → VK → Prop} (q : te σ H fun x H1 => tyV K T x H1 ∧ tr σ H1 fun xs H2 => r x xs H2 Q) : tBM K T r te tr σ H Q := q
theorem r_bm0 {T : String} {r : V → List V → Hp → VK → Prop} (q : te σ H fun x H1 => tyV K T x H1 ∧ r x [] H1 Q) : tBM0 K T r te σ H Q := q
theorem q_tyL {p : Addr} {xs : List V} {A : Prop} (h : H p = some (.lst xs)) (q : A) : tyV K "list" (.ref p) H ∧ A := ⟨Or.inl ⟨rfl, xs, sql h⟩, q⟩

theorem cast_q {x y : V} (e : x = y) (h : Q x H) : Q y H := e ▸ h
/-! ### operations on values -/
theorem q_addI {i j : Int} (q : Q (.int (i + j)) H) : rAddA K (.int i) (.int j) H Q := .inl ⟨i, j, rfl, rfl, q⟩
theorem q_I0 {f : Int → Int → V} {i j : Int} (q : Q (f i j) H) : rI0 f (.int i) (.int j) H Q := ⟨i, j, rfl, rfl, q⟩
theorem q_I {C : Int → Int → Prop} {f : Int → Int → V} {i j : Int} (h : C i j) (q : Q (f i j) H) : rI C f (.int i) (.int j) H Q := ⟨i, j, rfl, rfl, h, q⟩
theorem q_U {f : Int → V} {i : Int} (q : Q (f i) H) : rU f (.int i) H Q := ⟨i, rfl, q⟩
theorem q_ixT {p : Addr} {xs : List V} {i : Int} (h : SqT K H p xs) (ha : atI xs i = some v) (q : Q v H) : rIx K (.ref p) (.int i) H Q := .inr (.inl ⟨p, xs, i, v, rfl, rfl, h, ha, q⟩)
theorem q_ixL {p : Addr} {xs : List V} {i : Int} (h : SqL K H p xs) (ha : atI xs i = some v) (q : Q v H) : rIx K (.ref p) (.int i) H Q := .inl ⟨p, xs, i, v, rfl, rfl, h, ha, q⟩
theorem q_eqY (hs : scal x y = true) (he : x = y) (q : Q (.bl true) H) : rEqA K x y H Q := .inl ⟨hs, by rw [decide_eq_true he]; exact q⟩
theorem q_eqN (hs : scal x y = true) (he : ¬ x = y) (q : Q (.bl false) H) : rEqA K x y H Q := .inl ⟨hs, by rw [decide_eq_false he]; exact q⟩
theorem q_eqI {i j : Int} (h1 : i = j → Q (.bl true) H) (h2 : ¬ i = j → Q (.bl false) H) : rEqA K (.int i) (.int j) H Q := by
  by_cases e : i = j
  · exact q_eqY rfl (by rw [e]) (h1 e)
  · exact q_eqN rfl (fun z => e (V.int.inj z)) (h2 e)
theorem q_eqS {i j : Str} (h1 : i = j → Q (.bl true) H) (h2 : ¬ i = j → Q (.bl false) H) : rEqA K (.str i) (.str j) H Q := by
  by_cases e : i = j
  · exact q_eqY rfl (by rw [e]) (h1 e)
  · exact q_eqN rfl (fun z => e (V.str.inj z)) (h2 e)
theorem q_neY (hs : scal x y = true) (he : ¬ x = y) (q : Q (.bl true) H) : rNeA K x y H Q := .inl ⟨hs, by rw [decide_eq_false he]; exact q⟩
theorem q_neN (hs : scal x y = true) (he : x = y) (q : Q (.bl false) H) : rNeA K x y H Q := .inl ⟨hs, by rw [decide_eq_true he]; exact q⟩
theorem q_neI {i j : Int} (h1 : ¬ i = j → Q (.bl true) H) (h2 : i = j → Q (.bl false) H) : rNeA K (.int i) (.int j) H Q := by
  by_cases e : i = j
  · exact q_neN rfl (by rw [e]) (h2 e)
  · exact q_neY rfl (fun z => e (V.int.inj z)) (h1 e)
theorem q_cmp {f : Int → Int → Prop} [∀ i j, Decidable (f i j)] {i j : Int} (h1 : f i j → Q (.bl true) H) (h2 : ¬ f i j → Q (.bl false) H) : rI0 (fun i j => .bl (decide (f i j))) (.int i) (.int j) H Q := by
  refine ⟨i, j, rfl, rfl, ?_⟩
  show Q (V.bl (decide (f i j))) H
  by_cases e : f i j
  · rw [decide_eq_true e]; exact h1 e
  · rw [decide_eq_false e]; exact h2 e
theorem cmulL {i j : Int} (h : -(2 ^ 64) < i ∧ i < 2 ^ 64) : CMul i j := .inl h
theorem cmulR {i j : Int} (h : -(2 ^ 64) < j ∧ j < 2 ^ 64) : CMul i j := .inr h
theorem cdiv {i j : Int} (h : 0 < j ∧ j < 1073741824) : CDiv i j := h
theorem q_neD (hn : ¬ x = y) (hs : scal x y = true) (q : Q (.bl true) H) : rNeA K x y H Q := q_neY hs hn q
theorem q_cmpY {f : Int → Int → Prop} [∀ i j, Decidable (f i j)] {i j : Int} (h : f i j) (q : Q (.bl true) H) : rI0 (fun i j => .bl (decide (f i j))) (.int i) (.int j) H Q :=
  ⟨i, j, rfl, rfl, by show Q (V.bl (decide (f i j))) H; rw [decide_eq_true h]; exact q⟩
theorem q_cmpN {f : Int → Int → Prop} [∀ i j, Decidable (f i j)] {i j : Int} (h : ¬ f i j) (q : Q (.bl false) H) : rI0 (fun i j => .bl (decide (f i j))) (.int i) (.int j) H Q :=
  ⟨i, j, rfl, rfl, by show Q (V.bl (decide (f i j))) H; rw [decide_eq_false h]; exact q⟩
theorem q_isNY (he : x = .non) (q : Q (.bl true) H) : rIsN x .non H Q := ⟨rfl, by rw [decide_eq_true he]; exact q⟩
theorem q_isNN (he : ¬ x = .non) (q : Q (.bl false) H) : rIsN x .non H Q := ⟨rfl, by rw [decide_eq_false he]; exact q⟩
theorem q_notNY (he : x = .non) (q : Q (.bl false) H) : rNotN x .non H Q := ⟨rfl, by rw [decide_eq_true he]; exact q⟩
theorem q_notNN (he : ¬ x = .non) (q : Q (.bl true) H) : rNotN x .non H Q := ⟨rfl, by rw [decide_eq_false he]; exact q⟩
theorem q_lenL {p : Addr} {xs : List V} (h : SqL K H p xs) (q : Q (.int xs.length) H) : rLenA K [.ref p] H Q := .inl ⟨p, xs, rfl, .inl h, q⟩
theorem q_lenT {p : Addr} {xs : List V} (h : SqT K H p xs) (q : Q (.int xs.length) H) : rLenA K [.ref p] H Q := .inl ⟨p, xs, rfl, .inr h, q⟩
theorem q_sl1T {p : Addr} {xs : List V} (h : SqT K H p (x :: xs)) (q : ∀ p Hn, H p = none → Ex H Hn → Hn p = some (.tup xs) → Q (.ref p) Hn) : rSlA K (.ref p) (some 1) none H Q :=
  .inr ⟨p, x :: xs, rfl, h, fun z => by
    have e : HT.sIx (x :: xs).length 0 (some 1) = min 1 (x :: xs).length := HT.sIx_nat _ 0 1
    have z1 := z.1
    rw [e, List.length_cons] at z1
    omega, fun p hp => q p _ hp (Ex.mk hp rfl) (by rw [upd_same, cut1]; rfl)⟩
theorem q_sl1L {p : Addr} {xs : List V} (h : SqL K H p (x :: xs)) (q : ∀ p Hn, H p = none → Ex H Hn → Hn p = some (.lst xs) → Q (.ref p) Hn) : rSlA K (.ref p) (some 1) none H Q :=
  .inl ⟨p, x :: xs, rfl, h, fun p hp => q p _ hp (Ex.mk hp rfl) (by rw [upd_same, cut1]; rfl)⟩
theorem q_inT {p : Addr} {xs : List V} (h : SqT K H p xs) (hx : flatV x = true) (ha : xs.all flatV = true) (q : Q (.bl (inV x xs)) H) : rIn K false x (.ref p) H Q := ⟨p, xs, rfl, .inr h, hx, ha, q⟩
theorem q_inTY {p : Addr} {xs : List V} (h : SqT K H p xs) (hx : (flatV x && xs.all flatV && inV x xs) = true) (q : Q (.bl true) H) : rIn K false x (.ref p) H Q := by
  simp only [Bool.and_eq_true] at hx
  exact ⟨p, xs, rfl, .inr h, hx.1.1, hx.1.2, by rw [if_neg Bool.false_ne_true, hx.2]; exact q⟩
theorem q_inTN {p : Addr} {xs : List V} (h : SqT K H p xs) (hx : (flatV x && xs.all flatV && !inV x xs) = true) (q : Q (.bl false) H) : rIn K false x (.ref p) H Q := by
  simp only [Bool.and_eq_true, Bool.not_eq_true'] at hx
  exact ⟨p, xs, rfl, .inr h, hx.1.1, hx.1.2, by rw [if_neg Bool.false_ne_true, hx.2]; exact q⟩
theorem q_inLY {p : Addr} {xs : List V} (h : SqL K H p xs) (hx : (flatV x && xs.all flatV && inV x xs) = true) (q : Q (.bl true) H) : rIn K false x (.ref p) H Q := by
  simp only [Bool.and_eq_true] at hx
  exact ⟨p, xs, rfl, .inl h, hx.1.1, hx.1.2, by rw [if_neg Bool.false_ne_true, hx.2]; exact q⟩
theorem q_inLN {p : Addr} {xs : List V} (h : SqL K H p xs) (hx : (flatV x && xs.all flatV && !inV x xs) = true) (q : Q (.bl false) H) : rIn K false x (.ref p) H Q := by
  simp only [Bool.and_eq_true, Bool.not_eq_true'] at hx
  exact ⟨p, xs, rfl, .inl h, hx.1.1, hx.1.2, by rw [if_neg Bool.false_ne_true, hx.2]; exact q⟩
theorem q_isi {t : Value} {T : String} {b : Bool} (ty : TyOf K H x t) (e : PySem.W.kitOne K t (.type T) = some b) (q : Q (.bl b) H) : rIsi K [x, .ty T] H Q := ⟨x, .ty T, t, .type T, b, rfl, .ty T, .base ty, e, q⟩
theorem q_isiBI {i : Int} (q : Q (.bl false) H) : rIsi K [.int i, .ty "bool"] H Q := q_isi (.int i) (kit_ty (by decide +kernel)) q
theorem q_isiBN (q : Q (.bl false) H) : rIsi K [.non, .ty "bool"] H Q := q_isi .non (kit_ty (by decide +kernel)) q
def dispK (Q : VK) (p : Addr) (ps : List (V × V)) (H : Hp) : Prop := H p = some (.dK []) ∧ ∃ kvs : List (Key × V), ps = kvs.map (fun kv => (kV kv.1, kv.2)) ∧ kvs.length ≤ 15 ∧ Q (.ref p) (upd H p (.dK (mergeK [] kvs)))
theorem r_disp {trs : List (TE × TE)} (q : ∀ p Hn, H p = none → Ex H Hn → Hn p = some (.dK []) → tPairs trs σ Hn fun ps H2 => dispK Q p ps H2) : tDisp trs σ H Q := fun p hp => q p _ hp (Ex.mk hp rfl) upd_same
theorem r_pnil {QP : List (V × V) → Hp → Prop} (q : QP [] H) : tPairs [] σ H QP := q
theorem r_pcons {QP : List (V × V) → Hp → Prop} {tk tv : TE} {r : List (TE × TE)} (q : tk σ H fun x H1 => tv σ H1 fun y H2 => tPairs r σ H2 fun ps H3 => QP ((x, y) :: ps) H3) : tPairs ((tk, tv) :: r) σ H QP := q
theorem merge_nd {kvs : List (Key × V)} (h : (kvs.map (·.1)).Nodup) : mergeK [] kvs = kvs := by
  have key : ∀ (more acc : List (Key × V)), ((acc ++ more).map (·.1)).Nodup → mergeK acc more = acc ++ more := by
    intro more
    induction more with
    | nil => intro acc _; rw [List.append_nil]; rfl
    | cons p r ih =>
      intro acc h
      have hp : valV acc p.1 = none := by
        cases hv : valV acc p.1 with
        | none => rfl
        | some x =>
          exfalso
          have hm := valV_in hv
          rw [List.map_append, List.nodup_append] at h
          exact h.2.2 _ hm _ (by simp) rfl
      show mergeK (putK acc p.1 p.2) r = acc ++ p :: r
      rw [putK_new _ hp, ih _ (by rw [List.append_assoc]; exact h), List.append_assoc]
      rfl
  exact key kvs [] h
theorem q_disp {p : Addr} {ps : List (V × V)} (kvs : List (Key × V)) (h : H p = some (.dK [])) (e : ps = kvs.map (fun kv => (kV kv.1, kv.2))) (nd : (kvs.map (·.1)).Nodup) (hl : kvs.length ≤ 15)
    (q : ∀ Hn, Kp [p] H Hn → Hn p = some (.dK kvs) → Q (.ref p) Hn) : dispK Q p ps H := ⟨h, kvs, e, hl, by
  rw [merge_nd nd]
  exact q _ (Kp.set (List.mem_singleton.mpr rfl) (fun xs z => by rw [h] at z; cases z) rfl) upd_same⟩
theorem q_inL {p : Addr} {xs : List V} (h : SqL K H p xs) (hx : flatV x = true) (ha : xs.all flatV = true) (q : Q (.bl (inV x xs)) H) : rIn K false x (.ref p) H Q := ⟨p, xs, rfl, .inl h, hx, ha, q⟩
theorem r_iL {tl : TE} {R : It → Hp → Prop} (q : tl σ H fun x H1 => ∃ a, x = .ref a ∧ (∃ xs, SqL K H1 a xs) ∧ R (Itl K a) H1) : iList K tl σ H R := q
theorem q_iL {a : Addr} {xs : List V} {B : Addr → Prop} (h : SqL K H a xs) (q : B a) : ∃ b, V.ref a = .ref b ∧ (∃ xs, SqL K H b xs) ∧ B b := ⟨a, rfl, ⟨xs, h⟩, q⟩
theorem r_iT {tl : TE} {R : It → Hp → Prop} (q : tl σ H fun x H1 => ∃ a, x = .ref a ∧ (∃ xs, SqT K H1 a xs) ∧ R (Itt K a) H1) : iTup K tl σ H R := q
theorem q_iT {a : Addr} {xs : List V} {B : Addr → Prop} (h : SqT K H a xs) (q : B a) : ∃ b, V.ref a = .ref b ∧ (∃ xs, SqT K H b xs) ∧ B b := ⟨a, rfl, ⟨xs, h⟩, q⟩
theorem r_rng1 {R : It → Hp → Prop} (q : tr σ H fun vs H1 => ∃ j : Int, vs = [.int j] ∧ -(2 ^ 62) ≤ j ∧ j < 2 ^ 62 ∧ R (Itr 0 j.toNat) H1) : iRng1 tr σ H R := q
theorem q_rng1 {j : Int} {B : Int → Prop} (h : 0 ≤ j ∧ j ≤ 1000000) (q : B j) : ∃ i : Int, [V.int j] = [.int i] ∧ -(2 ^ 62) ≤ i ∧ i < 2 ^ 62 ∧ B i := ⟨j, rfl, by omega, by omega, q⟩
theorem r_rng2 {R : It → Hp → Prop} (q : tr σ H fun vs H1 => ∃ i j : Int, vs = [.int i, .int j] ∧ (-(2 ^ 62) ≤ i ∧ i < 2 ^ 62 ∧ -(2 ^ 62) ≤ j ∧ j < 2 ^ 62) ∧ R (Itr i (j - i).toNat) H1) : iRng2 tr σ H R := q
theorem q_rng2 {i j : Int} {B : Int → Int → Prop} (h : 0 ≤ i ∧ i ≤ 1000000 ∧ 0 ≤ j ∧ j ≤ 1000000) (q : B i j) : ∃ a b : Int, [V.int i, V.int j] = [.int a, .int b] ∧ (-(2 ^ 62) ≤ a ∧ a < 2 ^ 62 ∧ -(2 ^ 62) ≤ b ∧ b < 2 ^ 62) ∧ B a b :=
  ⟨i, j, rfl, ⟨by omega, by omega, by omega, by omega⟩, q⟩
theorem r_lc {wi : TI} {vs : List Nat} (q : wi σ H fun J H1 => ∀ D, H1 D = none → ∃ W : Nat → Nat → Hp → Prop, (∃ m, W 0 m (upd H1 D (.lst []))) ∧ ∀ i m H, W i m H →
  (J.stop i H ∧ Q (.ref D) H) ∨ (J.go i H ∧ ∃ Nx : Hp → Prop, (∀ H', Nx H' → ∃ m', m' < m ∧ W (i + 1) m' H') ∧ ∀ x H', J.yld i H x H' → g x (wipe σ vs) H' fun σ2 H2 => wipe σ2 vs = wipe σ vs ∧ t σ2 H2 fun b H3 =>
    if b = true then te σ2 H3 fun y H4 => ∃ acc, H4 D = some (.lst acc) ∧ acc.length < sizeLine ∧ Nx (upd H4 D (.lst (acc ++ [y]))) else Nx H3)) : tLc wi g t te vs σ H Q := q
theorem r_yes (q : QT true H) : tYes σ H QT := q
theorem r_for {wi : TI} (q : wi σ H fun J H1 => ∃ W : Nat → Nat → L2.St → Hp → Prop, (∃ m, W 0 m σ H1) ∧ ∀ i m σ H, W i m σ H →
  (J.stop i H ∧ nx σ H) ∨ (J.go i H ∧ ∃ N : L2.St → Hp → Prop, (∀ σ' H', N σ' H' → ∃ m', m' < m ∧ W (i + 1) m' σ' H') ∧ ∀ x H', J.yld i H x H' → g x σ H' fun σ2 H2 => ts ⟨N, rt, nx, N⟩ σ2 H2)) : tFor wi g ts ⟨nx, rt, bk, ct⟩ σ H := q
/-- the loops' words -/
theorem w_list {a : Addr} {xs : List V} (Pv : Nat → L2.St → Hp → Prop) (h0 : Pv 0 σ H) (hl : ∀ i σ H, i ≤ xs.length → Pv i σ H → SqL K H a xs)
    (hs : ∀ i x σ H, xs[i]? = some x → Pv i σ H → g x σ H fun σ2 H2 => ts ⟨Pv (i + 1), rt, nx, Pv (i + 1)⟩ σ2 H2) (hd : ∀ σ H, Pv xs.length σ H → nx σ H) :
    ∃ W : Nat → Nat → L2.St → Hp → Prop, (∃ m, W 0 m σ H) ∧ ∀ i m σ H, W i m σ H →
      ((Itl K a).stop i H ∧ nx σ H) ∨ ((Itl K a).go i H ∧ ∃ N : L2.St → Hp → Prop, (∀ σ' H', N σ' H' → ∃ m', m' < m ∧ W (i + 1) m' σ' H') ∧ ∀ x H', (Itl K a).yld i H x H' → g x σ H' fun σ2 H2 => ts ⟨N, rt, nx, N⟩ σ2 H2) :=
  for_list (D := ⟨nx, rt, nx, nx⟩) Pv h0 hl hs hd
theorem w_tup {a : Addr} {xs : List V} (Pv : Nat → L2.St → Hp → Prop) (h0 : Pv 0 σ H) (hl : ∀ i σ H, i ≤ xs.length → Pv i σ H → SqT K H a xs)
    (hs : ∀ i x σ H, xs[i]? = some x → Pv i σ H → g x σ H fun σ2 H2 => ts ⟨Pv (i + 1), rt, nx, Pv (i + 1)⟩ σ2 H2) (hd : ∀ σ H, Pv xs.length σ H → nx σ H) :
    ∃ W : Nat → Nat → L2.St → Hp → Prop, (∃ m, W 0 m σ H) ∧ ∀ i m σ H, W i m σ H →
      ((Itt K a).stop i H ∧ nx σ H) ∨ ((Itt K a).go i H ∧ ∃ N : L2.St → Hp → Prop, (∀ σ' H', N σ' H' → ∃ m', m' < m ∧ W (i + 1) m' σ' H') ∧ ∀ x H', (Itt K a).yld i H x H' → g x σ H' fun σ2 H2 => ts ⟨N, rt, nx, N⟩ σ2 H2) :=
  for_tup (D := ⟨nx, rt, nx, nx⟩) Pv h0 hl hs hd
theorem w_rng {lo : Int} {n : Nat} (Pv : Nat → L2.St → Hp → Prop) (h0 : Pv 0 σ H)
    (hs : ∀ i σ H, i < n → Pv i σ H → g (.int (lo + i)) σ H fun σ2 H2 => ts ⟨Pv (i + 1), rt, nx, Pv (i + 1)⟩ σ2 H2) (hd : ∀ σ H, Pv n σ H → nx σ H) :
    ∃ W : Nat → Nat → L2.St → Hp → Prop, (∃ m, W 0 m σ H) ∧ ∀ i m σ H, W i m σ H →
      ((Itr lo n).stop i H ∧ nx σ H) ∨ ((Itr lo n).go i H ∧ ∃ N : L2.St → Hp → Prop, (∀ σ' H', N σ' H' → ∃ m', m' < m ∧ W (i + 1) m' σ' H') ∧ ∀ x H', (Itr lo n).yld i H x H' → g x σ H' fun σ2 H2 => ts ⟨N, rt, nx, N⟩ σ2 H2) :=
  for_range (D := ⟨nx, rt, nx, nx⟩) Pv h0 hs hd
theorem w_while (W : Nat → L2.St → Hp → Prop) (m0 : Nat) (h0 : W m0 σ H)
    (hs : ∀ m σ' H', W m σ' H' → c σ' H' fun b H1 => if b = true then ts ⟨fun σ2 H2 => ∃ m', m' < m ∧ W m' σ2 H2, rt, nx, fun σ2 H2 => ∃ m', m' < m ∧ W m' σ2 H2⟩ σ' H1 else nx σ' H1)
    (mono : ∀ σ H Q Q', (∀ b H1, Q b H1 → Q' b H1) → c σ H Q → c σ H Q') : tWhile c ts ⟨nx, rt, bk, ct⟩ σ H := by
  refine ⟨W, ⟨m0, h0⟩, fun m σ' H' hw => mono σ' H' _ _ (fun b H1 q => ?_) (hs m σ' H' hw)⟩
  cases b with
  | true => exact ⟨_, fun _ _ n => n, q⟩
  | false => exact q
theorem q_setL {p : Addr} {xs : List V} {k : Int} {j : Nat} {QH : Hp → Prop} (h : H p = some (.lst xs)) (hj : ixN xs.length k = some j) (q : QH (upd H p (.lst (xs.set j v)))) : rSetL (.ref p) (.int k) v H QH := ⟨p, xs, k, j, rfl, rfl, h, hj, q⟩
theorem q_append {l : Addr} {xs : List V} (h : H l = some (.lst xs)) (hz : xs.length < 100000) (q : Q .non (upd H l (.lst (xs ++ [y])))) : rAppend (.ref l) [y] H Q := ⟨l, xs, y, rfl, rfl, h, sl1000' hz, q⟩
theorem q_pop0 {l : Addr} {xs : List V} (h : H l = some (.lst (x :: xs))) (q : Q x (upd H l (.lst xs))) : rPopAt (.ref l) [.int 0] H Q := ⟨l, x :: xs, 0, 0, x, rfl, rfl, h, by decide, by decide, by simp [seqIndex?], rfl, q⟩
theorem q_abs {i : Int} (q : Q (.int (if i < 0 then -i else i)) H) : rAbs [.int i] H Q := ⟨i, rfl, q⟩
theorem q_int {i : Int} (q : Q (.int i) H) : rInt [.int i] H Q := .inl ⟨i, rfl, q⟩
theorem q_intT (q : Q (.int 1) H) : rInt [.bl true] H Q := .inr ⟨true, rfl, q⟩
theorem q_intF (q : Q (.int 0) H) : rInt [.bl false] H Q := .inr ⟨false, rfl, q⟩
theorem q_intNT (q : Q (.int 1) H) : rInt [.bl (!false)] H Q := .inr ⟨true, rfl, q⟩
theorem q_intNF (q : Q (.int 0) H) : rInt [.bl (!true)] H Q := .inr ⟨false, rfl, q⟩
theorem iteNT {A B : Prop} (h : A) : if (!false) = true then A else B := by simpa using h
theorem iteNF {A B : Prop} (h : B) : if (!true) = true then A else B := by simpa using h
theorem q_listL {p : Addr} {ys : List V} (h : SqL K H p ys) (q : ∀ p Hn, H p = none → Ex H Hn → Hn p = some (.lst ys) → Q (.ref p) Hn) : rListOf K [.ref p] H Q := ⟨p, ys, rfl, .inl h, fun p hp => q p _ hp (Ex.mk hp rfl) upd_same⟩
theorem q_listT {p : Addr} {ys : List V} (h : SqT K H p ys) (q : ∀ p Hn, H p = none → Ex H Hn → Hn p = some (.lst ys) → Q (.ref p) Hn) : rListOf K [.ref p] H Q := ⟨p, ys, rfl, .inr h, fun p hp => q p _ hp (Ex.mk hp rfl) upd_same⟩
end

/-! ### tests that hand on more where more is wished (for while) -/
section
variable {K : PySem.W.Frag}
def MoE (t : TE) : Prop := ∀ σ H (Q Q' : VK), (∀ v H1, Q v H1 → Q' v H1) → t σ H Q → t σ H Q'
def MoT (t : TT) : Prop := ∀ σ H (Q Q' : Bool → Hp → Prop), (∀ v H1, Q v H1 → Q' v H1) → t σ H Q → t σ H Q'
def MoA (t : TA) : Prop := ∀ σ H (Q Q' : List V → Hp → Prop), (∀ v H1, Q v H1 → Q' v H1) → t σ H Q → t σ H Q'
def MoR (r : R2) : Prop := ∀ x y H (Q Q' : VK), (∀ v H1, Q v H1 → Q' v H1) → r x y H Q → r x y H Q'
def MoC (r : List V → Hp → VK → Prop) : Prop := ∀ x H (Q Q' : VK), (∀ v H1, Q v H1 → Q' v H1) → r x H Q → r x H Q'
theorem mo_var {i : Nat} : MoE (tVar i) := fun _ _ _ _ k ⟨v, h, q⟩ => ⟨v, h, k _ _ q⟩
theorem mo_c {v : V} : MoE (tC v) := fun _ _ _ _ k q => k _ _ q
theorem mo_op {r : R2} {a b : TE} (hr : MoR r) (ha : MoE a) (hb : MoE b) : MoE (tOp r a b) := fun σ H Q Q' k h => ha _ _ _ _ (fun x H1 q => hb _ _ _ _ (fun y H2 q => hr _ _ _ _ _ k q) q) h
theorem mo_test {a : TE} (ha : MoE a) : MoT (tTest a) := fun σ H Q Q' k h => ha _ _ _ _ (fun x H1 ⟨c, e, q⟩ => ⟨c, e, k _ _ q⟩) h
theorem mo_and {a b : TT} (ha : MoT a) (hb : MoT b) : MoT (tAnd a b) := fun σ H Q Q' k h => ha _ _ _ _ (fun c H1 q => by
  cases c
  · exact k _ _ q
  · exact hb _ _ _ _ k q) h
theorem mo_or {a b : TT} (ha : MoT a) (hb : MoT b) : MoT (tOr a b) := fun σ H Q Q' k h => ha _ _ _ _ (fun c H1 q => by
  cases c
  · exact hb _ _ _ _ k q
  · exact k _ _ q) h
theorem mo_not {a : TT} (ha : MoT a) : MoT (tNot a) := fun σ H Q Q' k h => ha _ _ _ _ (fun c H1 q => k _ _ q) h
theorem mo_nil : MoA tNil := fun _ _ _ _ k q => k _ _ q
theorem mo_cons {a : TE} {r : TA} (ha : MoE a) (hr : MoA r) : MoA (tCons a r) := fun σ H Q Q' k h => ha _ _ _ _ (fun x H1 q => hr _ _ _ _ (fun xs H2 q => k _ _ q) q) h
theorem mo_cb {r : List V → Hp → VK → Prop} {a : TA} (hr : MoC r) (ha : MoA a) : MoE (tCB r a) := fun σ H Q Q' k h => ha _ _ _ _ (fun x H1 q => hr _ _ _ _ k q) h
theorem mo_I0 {f : Int → Int → V} : MoR (rI0 f) := fun _ _ _ _ _ k ⟨i, j, a, b, q⟩ => ⟨i, j, a, b, k _ _ q⟩
theorem mo_I {C : Int → Int → Prop} {f : Int → Int → V} : MoR (rI C f) := fun _ _ _ _ _ k ⟨i, j, a, b, c, q⟩ => ⟨i, j, a, b, c, k _ _ q⟩
theorem mo_eqA : MoR (rEqA K) := fun _ _ _ _ _ k h => h.elim (fun ⟨a, q⟩ => .inl ⟨a, k _ _ q⟩) fun ⟨d, e, a, b, c, f, q⟩ => .inr ⟨d, e, a, b, c, f, k _ _ q⟩
theorem mo_neA : MoR (rNeA K) := fun _ _ _ _ _ k h => h.elim (fun ⟨a, q⟩ => .inl ⟨a, k _ _ q⟩) fun ⟨d, e, a, b, c, f, q⟩ => .inr ⟨d, e, a, b, c, f, k _ _ q⟩
theorem mo_ix : MoR (rIx K) := fun _ _ _ _ _ k h => by
  rcases h with ⟨p, xs, i, v, a, b, c, d, q⟩ | ⟨p, xs, i, v, a, b, c, d, q⟩ | ⟨z, i, c, a, b, d, e, q⟩
  · exact .inl ⟨p, xs, i, v, a, b, c, d, k _ _ q⟩
  · exact .inr (.inl ⟨p, xs, i, v, a, b, c, d, k _ _ q⟩)
  · exact .inr (.inr ⟨z, i, c, a, b, d, e, k _ _ q⟩)
theorem mo_lenA : MoC (rLenA K) := fun _ _ _ _ k h => by
  rcases h with ⟨p, ys, a, b, q⟩ | ⟨z, a, b, q⟩
  · exact .inl ⟨p, ys, a, b, k _ _ q⟩
  · exact .inr ⟨z, a, b, k _ _ q⟩
theorem ix0 {n : Nat} : ixN (n + 1) 0 = some 0 := by
  unfold ixN
  rw [if_pos (by decide), if_pos (by omega)]
  rfl
end
end Y
namespace Y
open PySem L2
def topS (i : Nat) : Stmt := PySem.Challenge.pw_placedanyhow_k10_values_of_expressions.main.body.getD i (.Pass ⟨0, 0, 0, 0⟩)
local macro_rules | `(tactic| walk_at "lift") => `(tactic| first
  | assumption
  | (refine at_ex (by assumption) ?_; walk_at "lift")
  | (refine tup_kp (by assumption) ?_; walk_at "lift")
  | (refine at_kp (by assumption) (by walk_at "nin") ?_; walk_at "lift"))
local macro_rules | `(tactic| walk_at "sq") => `(tactic| first
  | assumption
  | (refine sqt ?_; walk_at "lift")
  | (refine sql ?_; walk_at "lift"))
local macro_rules | `(tactic| walk_at "ar") => `(tactic| first
  | assumption
  | omega
  | (refine And.intro ?_ ?_ <;> omega)
  | (refine cdiv ⟨?_, ?_⟩ <;> omega)
  | (refine cmulL ⟨?_, ?_⟩ <;> omega)
  | (refine cmulR ⟨?_, ?_⟩ <;> omega)
  | decide)
set_option hygiene false in
local macro_rules | `(tactic| walk_at "i_disp") => `(tactic| intro dp Hn hdp ke hdn)
set_option hygiene false in
local macro_rules | `(tactic| walk_at "i_new") => `(tactic| intro p Hn hp ke hn)
local macro_rules | `(tactic| walk_at "len") => `(tactic| first | decide | (simp only [List.length_cons, List.length_nil, List.length_append, List.length_map]; omega))
local macro_rules | `(tactic| walk_at "new") => `(tactic| first
  | ((with_reducible refine q_newT ?h ?_); (case h => walk_at "len"); walk_at "i_new")
  | ((with_reducible refine q_newL ?h ?_); (case h => walk_at "len"); walk_at "i_new")
  | ((with_reducible refine q_sl1T (x := ?x) (xs := ?xs) ?h ?_); (case h => walk_at "sq"); walk_at "i_new")
  | ((with_reducible refine q_sl1L (x := ?x) (xs := ?xs) ?h ?_); (case h => walk_at "sq"); walk_at "i_new")
  | ((with_reducible refine q_listL (ys := ?ys) ?h ?_); (case h => walk_at "sq"); walk_at "i_new")
  | ((with_reducible refine q_listT (ys := ?ys) ?h ?_); (case h => walk_at "sq"); walk_at "i_new"))
local macro_rules | `(tactic| walk_at "arx") => `(tactic| first
  | omega
  | decide
  | (simp only [List.length_cons, List.length_nil, List.length_map]; omega))
set_option hygiene false in
local macro_rules | `(tactic| walk_at "q") => `(tactic| exact q)
local macro_rules | `(tactic| walk_at "st") => `(tactic| first
  | with_reducible refine r_seq ?_
  | with_reducible refine r_ifS ?_
  | with_reducible refine r_asg ?_
  | with_reducible refine r_ret ?_
  | with_reducible refine r_retN ?_
  | with_reducible refine r_next ?_
  | with_reducible refine r_drop ?_
  | ((with_reducible refine r_var (v := ?v) ?h ?_); (case h => exact rfl))
  | with_reducible refine r_c ?_
  | with_reducible refine r_op ?_
  | with_reducible refine r_un ?_
  | with_reducible refine r_test ?_
  | with_reducible refine r_tB ?_
  | with_reducible refine q_exb ?_
  | with_reducible refine r_and ?_
  | with_reducible refine r_or ?_
  | with_reducible refine r_not ?_
  | with_reducible refine r_andV ?_
  | with_reducible refine r_orV ?_
  | with_reducible refine r_notV ?_
  | with_reducible refine r_ifE ?_
  | with_reducible refine iteT ?_
  | with_reducible refine iteF ?_
  | with_reducible refine iteNT ?_
  | with_reducible refine iteNF ?_
  | with_reducible refine q_intNT ?_
  | with_reducible refine q_intNF ?_
  | with_reducible refine r_cons ?_
  | with_reducible refine r_nil ?_
  | with_reducible refine r_cb ?_
  | with_reducible refine r_call ?_
  | with_reducible refine r_tup ?_
  | with_reducible refine r_lst ?_
  | with_reducible refine r_gname ?_
  | with_reducible refine r_gnil ?_
  | with_reducible refine r_gcons ?_
  | with_reducible refine r_gsub ?_
  | ((with_reducible refine r_gtup (xs := ?xs) ?h ?l ?_); (case h => walk_at "sq"); (case l => rfl))
  | with_reducible refine r_sl ?_
  | with_reducible refine r_part ?_
  | with_reducible refine r_nopart ?_
  | with_reducible refine q_part ?_
  | with_reducible refine r_dget ?_
  | ((with_reducible refine q_dget (kvs := ?kvs) (v := ?v) ?h ?l ?_); (case h => walk_at "lift"); (case l => first | assumption | rfl))
  | with_reducible refine r_bm ?_
  | with_reducible refine r_bm0 ?_
  | with_reducible refine q_addI ?_
  | ((with_reducible refine q_eqY ?s ?e ?_); (case e => first | exact rfl | decide +kernel); (case s => rfl))
  | ((with_reducible refine q_eqN ?s ?e ?_); (case e => decide +kernel); (case s => rfl))
  | ((with_reducible refine q_eqN ?s ?e ?_); (case e => walk_at "ne"); (case s => rfl))
  | (with_reducible refine q_eqI (fun c => ?_) (fun c => ?_))
  | ((with_reducible refine q_neY ?s ?e ?_); (case e => decide +kernel); (case s => rfl))
  | ((with_reducible refine q_neN ?s ?e ?_); (case e => first | exact rfl | decide +kernel); (case s => rfl))
  | (with_reducible refine q_neI (fun c => ?_) (fun c => ?_))
  | ((with_reducible refine q_cmpY ?h ?_); (case h => walk_at "arx"))
  | ((with_reducible refine q_cmpN ?h ?_); (case h => walk_at "arx"))
  | (with_reducible refine q_cmp (fun c => ?_) (fun c => ?_))
  | ((with_reducible refine q_I ?c ?_); (case c => walk_at "ar"))
  | with_reducible refine q_I0 ?_
  | with_reducible refine q_U ?_
  | ((with_reducible refine q_ixT (xs := ?xs) (v := ?v) ?h ?a ?_); (case h => walk_at "sq"); (case a => exact rfl))
  | ((with_reducible refine q_lenL (xs := ?xs) ?h ?_); (case h => walk_at "sq"))
  | with_reducible refine q_isiBI ?_
  | with_reducible refine q_isiBN ?_
  | ((with_reducible refine q_inTY (xs := ?xs) ?h ?e ?_); (case h => walk_at "sq"); (case e => first | decide +kernel | rfl))
  | ((with_reducible refine q_inTN (xs := ?xs) ?h ?e ?_); (case h => walk_at "sq"); (case e => first | decide +kernel | rfl))
  | ((with_reducible refine q_inLY (xs := ?xs) ?h ?e ?_); (case h => walk_at "sq"); (case e => first | decide +kernel | rfl))
  | ((with_reducible refine q_inLN (xs := ?xs) ?h ?e ?_); (case h => walk_at "sq"); (case e => first | decide +kernel | rfl))
  | with_reducible refine q_int ?_
  | with_reducible refine q_intT ?_
  | with_reducible refine q_intF ?_
  | with_reducible refine q_abs ?_
  | with_reducible refine r_yes ?_
  | with_reducible refine r_lc ?_
  | (with_reducible refine r_disp ?_; walk_at "i_disp")
  | with_reducible refine r_pcons ?_
  | with_reducible refine r_pnil ?_
  | with_reducible refine r_for ?_
  | with_reducible refine r_iL ?_
  | with_reducible refine r_iT ?_
  | with_reducible refine r_rng1 ?_
  | with_reducible refine r_rng2 ?_
  | ((with_reducible refine q_iL (xs := ?xs) ?h ?_); (case h => walk_at "sq"))
  | ((with_reducible refine q_iT (xs := ?xs) ?h ?_); (case h => walk_at "sq"))
  | ((with_reducible refine q_rng1 ?h ?_); (case h => walk_at "ar"))
  | ((with_reducible refine q_rng2 ?h ?_); (case h => refine And.intro ?_ (And.intro ?_ (And.intro ?_ ?_)) <;> omega))
  | walk_at "q"
  | with_reducible refine q_isNY rfl ?_
  | ((with_reducible refine q_isNN ?h ?_); (case h => intro z; cases z))
  | with_reducible refine q_notNY rfl ?_
  | ((with_reducible refine q_notNN ?h ?_); (case h => intro z; cases z))
  | ((with_reducible refine q_ixL (xs := ?xs) (v := ?v) ?h ?a ?_); (case h => walk_at "sq"); (case a => first | exact rfl | exact at0 | assumption | walk_at "ax"))
  | walk_at "new"
  | walk_at "own")
local macro_rules | `(tactic| walk_at "own") => `(tactic| fail)
local macro_rules | `(tactic| walk_at "ne") => `(tactic| fail)
local macro_rules | `(tactic| walk_at "ax") => `(tactic| fail)
local macro_rules | `(tactic| walk_at "ex") => `(tactic| first
  | assumption
  | exact Ex.refl _
  | (refine Ex.trans ?_ (by assumption); walk_at "ex"))
/-! ### terms -/
inductive Op | add | sub | mul | div | mod | and | or | eq | ne | lt | le
  deriving DecidableEq
def Op.str : Op → Str
  | .add => "+" | .sub => "-" | .mul => "*" | .div => "/" | .mod => "mod" | .and => "and" | .or => "or" | .eq => "==" | .ne => "!=" | .lt => "<" | .le => "<="
def opStrs : List Str := ["+", "-", "*", "/", "mod", "and", "or", "==", "!=", "<", "<="]
theorem op_ne {o : Op} {z : Str} (h : (opStrs.all fun y => !decide (y = z)) = true) : ¬ V.str o.str = V.str z := by
  intro e
  have e' : o.str = z := V.str.inj e
  have m : o.str ∈ opStrs := by cases o <;> decide +kernel
  have := List.all_eq_true.mp h _ m
  rw [e'] at this
  simp at this
inductive Tm | num (n : Int) | cell (k : Int) | at (f s : Int) (e : Tm) | neg (e : Tm) | not (e : Tm) | bin (o : Op) (a b : Tm)
def Tm.In (H : Hp) : Tm → V → Prop
  | .num n, v => ∃ p, v = .ref p ∧ H p = some (.tup [.str "num", .int n])
  | .cell k, v => ∃ p, v = .ref p ∧ H p = some (.tup [.str "cell", .int k])
  | .at f s e, v => ∃ p x, v = .ref p ∧ H p = some (.tup [.str "at", .int f, .int s, x]) ∧ Tm.In H e x
  | .neg e, v => ∃ p x, v = .ref p ∧ H p = some (.tup [.str "neg", x]) ∧ Tm.In H e x
  | .not e, v => ∃ p x, v = .ref p ∧ H p = some (.tup [.str "not", x]) ∧ Tm.In H e x
  | .bin o a b, v => ∃ p x y, v = .ref p ∧ H p = some (.tup [.str o.str, x, y]) ∧ Tm.In H a x ∧ Tm.In H b y
theorem Tm.In.up {H H' : Hp} (k : ∀ p xs, H p = some (.tup xs) → H' p = some (.tup xs)) : ∀ {e : Tm} {v : V}, e.In H v → e.In H' v
  | .num _, _, ⟨p, h, a⟩ => ⟨p, h, k _ _ a⟩
  | .cell _, _, ⟨p, h, a⟩ => ⟨p, h, k _ _ a⟩
  | .at _ _ _, _, ⟨p, x, h, a, b⟩ => ⟨p, x, h, k _ _ a, Tm.In.up k b⟩
  | .neg _, _, ⟨p, x, h, a, b⟩ => ⟨p, x, h, k _ _ a, Tm.In.up k b⟩
  | .not _, _, ⟨p, x, h, a, b⟩ => ⟨p, x, h, k _ _ a, Tm.In.up k b⟩
  | .bin _ _ _, _, ⟨p, x, y, h, a, b, c⟩ => ⟨p, x, y, h, k _ _ a, Tm.In.up k b, Tm.In.up k c⟩
theorem tm_ex {H H' : Hp} {e : Tm} {v : V} (x : Ex H H') (h : e.In H v) : e.In H' v := h.up fun p xs q => x p _ q
theorem tm_kp {M : List Addr} {H H' : Hp} {e : Tm} {v : V} (x : Kp M H H') (h : e.In H v) : e.In H' v := h.up x.tup
def Tm.deep : Tm → Nat
  | .num _ => 1 | .cell _ => 1 | .at _ _ e => e.deep + 1 | .neg e => e.deep + 1 | .not e => e.deep + 1 | .bin _ a b => max a.deep b.deep + 1
theorem Tm.deep_pos : ∀ e : Tm, 0 < e.deep
  | .num _ => Nat.one_pos | .cell _ => Nat.one_pos | .at _ _ _ => Nat.succ_pos _ | .neg _ => Nat.succ_pos _ | .not _ => Nat.succ_pos _ | .bin _ _ _ => Nat.succ_pos _
/-- over n cells, with words as numbers -/
def Tm.ok (n : Int) : Tm → Prop
  | .num k => 0 ≤ k ∧ k < 65536
  | .cell k => 0 ≤ k ∧ k < n
  | .at f s e => 0 ≤ f ∧ 0 < s ∧ f + s ≤ n ∧ e.ok n
  | .neg e => e.ok n
  | .not e => e.ok n
  | .bin _ a b => a.ok n ∧ b.ok n
theorem Tm.ok.mono {n m : Int} (h : n ≤ m) : ∀ {e : Tm}, e.ok n → e.ok m
  | .num _, a => a
  | .cell _, a => ⟨a.1, by have := a.2; omega⟩
  | .at _ _ _, a => ⟨a.1, a.2.1, by have := a.2.2.1; omega, Tm.ok.mono h a.2.2.2⟩
  | .neg e, a => Tm.ok.mono (e := e) h a
  | .not e, a => Tm.ok.mono (e := e) h a
  | .bin _ _ _, a => ⟨Tm.ok.mono h a.1, Tm.ok.mono h a.2⟩
def hold : Op → Int → Int → Bool
  | .and, a, b => decide (a ≠ 0) && decide (b ≠ 0)
  | .or, a, b => decide (a ≠ 0) || decide (b ≠ 0)
  | .eq, a, b => decide (a = b)
  | .ne, a, b => decide (a ≠ b)
  | .lt, a, b => decide (a < b)
  | _, a, b => decide (a ≤ b)
def b2 (b : Bool) : Int := if b = true then 1 else 0
def calc2 : Op → Int → Int → Option Int
  | .add, a, b => some ((a + b) % 65536)
  | .sub, a, b => some ((a - b) % 65536)
  | .mul, a, b => some (a * b % 65536)
  | .div, a, b => if b = 0 then none else some (a / b)
  | .mod, a, b => if b = 0 then none else some (a % b)
  | o, a, b => some (b2 (hold o a b))
def ev (cs : List Int) : Tm → Option Int
  | .num n => some n
  | .cell k => some (cs.getD k.toNat 0)
  | .at f s e => match ev cs e with
    | none => none
    | some i => if s ≤ i then none else some (cs.getD (f + i).toNat 0)
  | .neg e => match ev cs e with
    | none => none
    | some i => some (-i % 65536)
  | .not e => match ev cs e with
    | none => none
    | some i => some (b2 (decide (i = 0)))
  | .bin o a b => match ev cs a, ev cs b with
    | some i, some j => calc2 o i j
    | _, _ => none
/-- the cell of a target -/
def wh (cs : List Int) : Tm → Option Int
  | .cell k => some k
  | .at f s e => match ev cs e with
    | none => none
    | some i => if s ≤ i then none else some (f + i)
  | _ => none
def optV : Option Int → V
  | none => .non
  | some i => .int i
def Words (cs : List Int) : Prop := ∀ c ∈ cs, 0 ≤ c ∧ c < 65536
theorem Words.get {cs : List Int} (h : Words cs) (k : Nat) : 0 ≤ cs.getD k 0 ∧ cs.getD k 0 < 65536 := by
  by_cases hk : k < cs.length
  · rw [List.getD_eq_getElem?_getD, List.getElem?_eq_getElem hk]
    exact h _ (List.getElem_mem hk)
  · rw [List.getD_eq_getElem?_getD, List.getElem?_eq_none (by omega)]
    exact ⟨by decide, by decide⟩
theorem b2_w (b : Bool) : 0 ≤ b2 b ∧ b2 b < 65536 := by cases b <;> exact ⟨by decide, by decide⟩
theorem calc2_w {o : Op} {a b x : Int} (ha : 0 ≤ a ∧ a < 65536) (hb : 0 ≤ b ∧ b < 65536) (h : calc2 o a b = some x) : 0 ≤ x ∧ x < 65536 := by
  have hd : b ≠ 0 → 0 ≤ a / b ∧ a / b < 65536 := fun n => by
    have h1 : 0 ≤ a / b := Int.ediv_nonneg ha.1 hb.1
    have h2 : a / b ≤ a := Int.ediv_le_self b ha.1
    omega
  have hm : b ≠ 0 → 0 ≤ a % b ∧ a % b < 65536 := fun n => by
    have h1 : 0 ≤ a % b := Int.emod_nonneg a n
    have h2 : a % b < b := Int.emod_lt_of_pos a (by omega)
    omega
  cases o <;> simp only [calc2] at h
  case div => split at h; · cases h
              · cases h; exact hd (by assumption)
  case mod => split at h; · cases h
              · cases h; exact hm (by assumption)
  case add => cases h; omega
  case sub => cases h; omega
  case mul => cases h; exact ⟨Int.emod_nonneg _ (by decide), Int.emod_lt_of_pos _ (by decide)⟩
  all_goals (cases h; exact b2_w _)
theorem ev_w {cs : List Int} (hw : Words cs) {n : Int} : ∀ {e : Tm} {x : Int}, e.ok n → ev cs e = some x → 0 ≤ x ∧ x < 65536
  | .num _, x, a, h => by cases h; exact a
  | .cell _, x, a, h => by cases h; exact hw.get _
  | .at f s e, x, a, h => by
    simp only [ev] at h
    split at h
    · cases h
    · split at h
      · cases h
      · cases h; exact hw.get _
  | .neg e, x, a, h => by
    simp only [ev] at h
    split at h
    · cases h
    · cases h; omega
  | .not e, x, a, h => by
    simp only [ev] at h
    split at h
    · cases h
    · cases h; exact b2_w _
  | .bin o e g, x, a, h => by
    simp only [ev] at h
    split at h
    · rename_i h1 h2
      exact calc2_w (ev_w hw a.1 h1) (ev_w hw a.2 h2) h
    · cases h
theorem atc {cs : List Int} {k : Int} (h0 : 0 ≤ k) (h1 : k < cs.length) : atI (cs.map V.int) k = some (.int (cs.getD k.toNat 0)) := by
  have hk : k.toNat < cs.length := by omega
  have e : k = ((k.toNat : Nat) : Int) := by omega
  have q : atI (cs.map V.int) ((k.toNat : Nat) : Int) = some (.int (cs.getD k.toNat 0)) := atI_nat (by rw [List.getElem?_map, List.getD_eq_getElem?_getD, List.getElem?_eq_getElem hk]; rfl)
  rw [← e] at q
  exact q
/-- targets -/
def Tm.tgt : Tm → Prop
  | .cell _ => True
  | .at _ _ _ => True
  | _ => False
theorem wh_ok {cs : List Int} (hw : Words cs) : ∀ {e : Tm} {k : Int}, e.ok cs.length → wh cs e = some k → 0 ≤ k ∧ k < cs.length
  | .num _, k, a, h => by cases h
  | .cell _, k, a, h => by cases h; exact a
  | .at f s e, k, a, h => by
    simp only [wh] at h
    split at h
    · cases h
    · rename_i i hi
      split at h
      · cases h
      · cases h
        have := ev_w hw a.2.2.2 hi
        have := a.1
        have := a.2.2.1
        omega
  | .neg _, k, a, h => by cases h
  | .not _, k, a, h => by cases h
  | .bin _ _ _, k, a, h => by cases h
theorem ev_wh {cs : List Int} : ∀ {e : Tm}, e.tgt → ev cs e = (wh cs e).map fun k => cs.getD k.toNat 0
  | .cell _, _ => rfl
  | .at f s e, _ => by
    simp only [ev, wh]
    split
    · rfl
    · split <;> rfl
local macro_rules | `(tactic| walk_at "ax") => `(tactic| (refine atc ?_ ?_ <;> omega))
structure Txt (mg : Str → Option Value) : Prop where
  n_len : mg "len" = none
  n_int : mg "int" = none
  n_abs : mg "abs" = none
  n_range : mg "range" = none
  n_list : mg "list" = none
  n_bool : mg "bool" = none
  n_isinstance : mg "isinstance" = none
  c_WORDS : ∃ t, mg "WORDS" = some (.int 65536 t)
local macro_rules | `(tactic| walk_at "lev") => `(tactic| first | decide | omega)
variable {P : Program} {w : World} {K : PySem.W.Frag} {mg : Str → Option Value} {base : Heap}
local macro_rules | `(tactic| walk_at "ne") => `(tactic| exact op_ne (by decide +kernel))
abbrev s_bit : Stmt := topS 8
theorem sc_bit : FnScope ["truth"] ["truth"] (defScope s_bit) := ⟨rfl, rfl, rfl, by decide +kernel, rfl, by decide +kernel, by decide +kernel⟩
abbrev p_bit : List Str := ["truth"]
abbrev s_holds : Stmt := topS 7
theorem sc_holds : FnScope ["operator", "left", "right"] ["operator", "left", "right"] (defScope s_holds) := ⟨rfl, rfl, rfl, by decide +kernel, rfl, by decide +kernel, by decide +kernel⟩
abbrev p_holds : List Str := ["operator", "left", "right"]
abbrev s_divide : Stmt := topS 6
theorem sc_divide : FnScope ["operator", "left", "right"] ["operator", "left", "right"] (defScope s_divide) := ⟨rfl, rfl, rfl, by decide +kernel, rfl, by decide +kernel, by decide +kernel⟩
abbrev p_divide : List Str := ["operator", "left", "right"]
abbrev s_calculate : Stmt := topS 5
theorem sc_calculate : FnScope ["operator", "left", "right"] ["operator", "left", "right"] (defScope s_calculate) := ⟨rfl, rfl, rfl, by decide +kernel, rfl, by decide +kernel, by decide +kernel⟩
abbrev p_calculate : List Str := ["operator", "left", "right"]
abbrev s_operate : Stmt := topS 4
theorem sc_operate : FnScope ["operator", "operand"] ["operator", "operand"] (defScope s_operate) := ⟨rfl, rfl, rfl, by decide +kernel, rfl, by decide +kernel, by decide +kernel⟩
abbrev p_operate : List Str := ["operator", "operand"]
abbrev s_place : Stmt := topS 3
theorem sc_place : FnScope ["target", "cells", "_", "first", "size", "e", "index"] ["target", "cells"] (defScope s_place) := ⟨rfl, rfl, rfl, by decide +kernel, rfl, by decide +kernel, by decide +kernel⟩
abbrev p_place : List Str := ["target", "cells"]
abbrev s_value : Stmt := topS 2
theorem sc_value : FnScope ["e", "cells", "kind", "left", "right", "number"] ["e", "cells"] (defScope s_value) := ⟨rfl, rfl, rfl, by decide +kernel, rfl, by decide +kernel, by decide +kernel⟩
abbrev p_value : List Str := ["e", "cells"]
/-! ### bit, holds, divide, calculate, operate -/
def sp_bit : Sp := fun vs H Q _ => ∃ b : Bool, vs = [.bl b] ∧ Q (.int (b2 b)) H
theorem ok_bit (D : Dn K mg "bit" s_bit p_bit) : Cal P w K mg base "bit" 1 p_bit sp_bit := by
  refine D.ok sc_bit (fun vs H Q E h => ?_) (fun f cdv A outer s H vs Q E hr h => ?_)
  · obtain ⟨b, rfl, _⟩ := h
    rfl
  obtain ⟨b, rfl, q⟩ := h
  refine ⟨_, (pss_one (ps_ret (pe_ifExp (pt_val (pv 0)) pe_int pe_int))), ?_⟩
  cases b <;> (repeat' walk_at "st") <;> exact q
def sp_holds : Sp := fun vs H Q _ => ∃ o a b, vs = [.str (Op.str o), .int a, .int b] ∧ Q (.bl (hold o a b)) H
theorem ok_holds (D : Dn K mg "holds" s_holds p_holds) : Cal P w K mg base "holds" 1 p_holds sp_holds := by
  refine D.ok sc_holds (fun vs H Q E h => ?_) (fun f cdv A outer s H vs Q E hr h => ?_)
  · obtain ⟨_, _, _, rfl, _⟩ := h
    rfl
  obtain ⟨o, a, b, rfl, q⟩ := h
  refine ⟨_, (pss_cons (ps_if (pt_cmpR (op_eqA (hu64 hr)) (pv 0) pe_str (nomark _)) (pss_one (ps_ret (pe_and (pe_cmpR (op_neA (hu64 hr)) (pv 1) pe_int (nomark _)) (pe_one (pe_cmpR (op_neA (hu64 hr)) (pv 2) pe_int (nomark _)))))) pss_nil) (pss_cons (ps_if (pt_cmpR (op_eqA (hu64 hr)) (pv 0) pe_str (nomark _)) (pss_one (ps_ret (pe_or (pe_cmpR (op_neA (hu64 hr)) (pv 1) pe_int (nomark _)) (pe_one (pe_cmpR (op_neA (hu64 hr)) (pv 2) pe_int (nomark _)))))) pss_nil) (pss_cons (ps_if (pt_cmpR (op_eqA (hu64 hr)) (pv 0) pe_str (nomark _)) (pss_one (ps_ret (pe_cmpR (op_eqA (hu64 hr)) (pv 1) (pv 2) (nomark _)))) pss_nil) (pss_cons (ps_if (pt_cmpR (op_eqA (hu64 hr)) (pv 0) pe_str (nomark _)) (pss_one (ps_ret (pe_cmpR (op_neA (hu64 hr)) (pv 1) (pv 2) (nomark _)))) pss_nil) (pss_cons (ps_if (pt_cmpR (op_eqA (hu64 hr)) (pv 0) pe_str (nomark _)) (pss_one (ps_ret (pe_cmpR op_lt (pv 1) (pv 2) (nomark _)))) pss_nil) (pss_one (ps_ret (pe_cmpR op_le (pv 1) (pv 2) (nomark _))))))))), ?_⟩
  try dsimp only [cxOf, Cx.nox]
  cases o <;> (repeat' walk_at "st") <;> simp_all [hold]
theorem c_bit {H : Hp} {Q : VK} {E : XK} {b : Bool} (q : Q (.int (b2 b)) H) : sp_bit [.bl b] H Q E := ⟨b, rfl, q⟩
theorem c_holds {H : Hp} {Q : VK} {E : XK} {o : Op} {a b : Int} (q : Q (.bl (hold o a b)) H) : sp_holds [.str o.str, .int a, .int b] H Q E := ⟨o, a, b, rfl, q⟩
local macro_rules | `(tactic| walk_at "own") => `(tactic| refine c_bit ?_)
local macro_rules | `(tactic| walk_at "own") => `(tactic| refine c_holds ?_)
def sp_divide : Sp := fun vs H Q _ => ∃ o a b, vs = [.str (Op.str o), .int a, .int b] ∧ (o = .div ∨ o = .mod) ∧ (0 ≤ b ∧ b < 65536) ∧ Q (optV (calc2 o a b)) H
theorem ok_divide (D : Dn K mg "divide" s_divide p_divide) : Cal P w K mg base "divide" 1 p_divide sp_divide := by
  refine D.ok sc_divide (fun vs H Q E h => ?_) (fun f cdv A outer s H vs Q E hr h => ?_)
  · obtain ⟨_, _, _, rfl, _⟩ := h
    rfl
  obtain ⟨o, a, b, rfl, ho, hb, q⟩ := h
  refine ⟨_, (pss_cons (ps_if (pt_cmpR (op_eqA (hu64 hr)) (pv 2) pe_int (nomark _)) (pss_one (ps_ret pe_non)) pss_nil) (pss_one (ps_ret (pe_ifExp (pt_cmpR (op_eqA (hu64 hr)) (pv 0) pe_str (nomark _)) (pe_op op_fdiv (pv 1) (pv 2)) (pe_op op_mod (pv 1) (pv 2)))))), ?_⟩
  try dsimp only [cxOf, Cx.nox]
  rcases ho with rfl | rfl
  all_goals (repeat' walk_at "st")
  all_goals simp_all [calc2, optV]
theorem c_divide {H : Hp} {Q : VK} {E : XK} {o : Op} {a b : Int} (h1 : o = .div ∨ o = .mod) (h2 : 0 ≤ b ∧ b < 65536) (q : Q (optV (calc2 o a b)) H) : sp_divide [.str o.str, .int a, .int b] H Q E := ⟨o, a, b, rfl, h1, h2, q⟩
local macro_rules | `(tactic| walk_at "own") => `(tactic| (refine c_divide ?a ?b ?_; (case a => first | exact Or.inl rfl | exact Or.inr rfl); (case b => walk_at "ar")))
def sp_calc : Sp := fun vs H Q _ => ∃ o a b, vs = [.str (Op.str o), .int a, .int b] ∧ (0 ≤ a ∧ a < 65536) ∧ (0 ≤ b ∧ b < 65536) ∧ Q (optV (calc2 o a b)) H
theorem ok_calculate (T : Txt mg) (D : Dn K mg "calculate" s_calculate p_calculate) (G_bit : Cal P w K mg base "bit" 1 p_bit sp_bit) (G_holds : Cal P w K mg base "holds" 1 p_holds sp_holds) (G_divide : Cal P w K mg base "divide" 1 p_divide sp_divide) :
    Cal P w K mg base "calculate" 2 p_calculate sp_calc := by
  refine D.ok sc_calculate (fun vs H Q E h => ?_) (fun f cdv A outer s H vs Q E hr h => ?_)
  · obtain ⟨_, _, _, rfl, _⟩ := h
    rfl
  obtain ⟨o, a, b, rfl, ha, hb, q⟩ := h
  refine ⟨_, (pss_cons (ps_if (pt_cmpR (op_eqA (hu64 hr)) (pv 0) pe_str (nomark _)) (pss_one (ps_ret (pe_op op_mod (pe_op op_addA (pv 1) (pv 2)) (pe_globC rfl T.c_WORDS)))) pss_nil) (pss_cons (ps_if (pt_cmpR (op_eqA (hu64 hr)) (pv 0) pe_str (nomark _)) (pss_one (ps_ret (pe_op op_mod (pe_op op_sub (pv 1) (pv 2)) (pe_globC rfl T.c_WORDS)))) pss_nil) (pss_cons (ps_if (pt_cmpR (op_eqA (hu64 hr)) (pv 0) pe_str (nomark _)) (pss_one (ps_ret (pe_op op_mod (pe_op op_mul (pv 1) (pv 2)) (pe_globC rfl T.c_WORDS)))) pss_nil) (pss_cons (ps_if (PW.pt (pw_or (pt_cmpR (op_eqA (hu64 hr)) (pv 0) pe_str (nomark _)) (pw_or1 (pt_cmpR (op_eqA (hu64 hr)) (pv 0) pe_str (nomark _))))) (pss_one (ps_ret (pe_cal G_divide (hr.mono (by walk_at "lev")) rfl (pa_cons (pv 0) (pa_cons (pv 1) (pa_cons (pv 2) pa_nil)))))) pss_nil) (pss_one (ps_ret (pe_cal G_bit (hr.mono (by walk_at "lev")) rfl (pa_cons (pe_cal G_holds (hr.mono (by walk_at "lev")) rfl (pa_cons (pv 0) (pa_cons (pv 1) (pa_cons (pv 2) pa_nil)))) pa_nil)))))))), ?_⟩
  try dsimp only [cxOf, Cx.nox]
  cases o <;> (repeat' walk_at "st")
def sp_operate : Sp := fun vs H Q _ => ∃ (b : Bool) (i : Option Int), vs = [.str (if b = true then "neg" else "not"), optV i] ∧ (∀ x, i = some x → 0 ≤ x ∧ x < 65536) ∧ Q (optV (if b = true then i.map fun x => -x % 65536 else i.map fun x => b2 (decide (x = 0)))) H
theorem ok_operate (T : Txt mg) (D : Dn K mg "operate" s_operate p_operate) (G_bit : Cal P w K mg base "bit" 1 p_bit sp_bit) : Cal P w K mg base "operate" 2 p_operate sp_operate := by
  refine D.ok sc_operate (fun vs H Q E h => ?_) (fun f cdv A outer s H vs Q E hr h => ?_)
  · obtain ⟨_, _, rfl, _⟩ := h
    rfl
  obtain ⟨b, i, rfl, ha, q⟩ := h
  refine ⟨_, (pss_cons (ps_if (pt_cmpR op_isN1 (pv 1) pe_non (nomark _)) (pss_one (ps_ret pe_non)) pss_nil) (pss_cons (ps_if (pt_cmpR (op_eqA (hu64 hr)) (pv 0) pe_str (nomark _)) (pss_one (ps_ret (pe_op op_mod (pe_un un_neg (pv 1)) (pe_globC rfl T.c_WORDS)))) pss_nil) (pss_one (ps_ret (pe_cal G_bit (hr.mono (by walk_at "lev")) rfl (pa_cons (pe_cmpR (op_eqA (hu64 hr)) (pv 1) pe_int (nomark _)) pa_nil)))))), ?_⟩
  try dsimp only [cxOf, Cx.nox]
  cases b <;> cases i <;> simp only [optV, if_true, if_false, Bool.false_eq_true, Option.map] at q ⊢ <;> (repeat' walk_at "st")
  all_goals simp_all
theorem c_operate {H : Hp} {Q : VK} {E : XK} {b : Bool} {i : Option Int} (h1 : ∀ x, i = some x → 0 ≤ x ∧ x < 65536) (q : Q (optV (if b = true then i.map fun x => -x % 65536 else i.map fun x => b2 (decide (x = 0)))) H) :
    sp_operate [.str (if b = true then "neg" else "not"), optV i] H Q E := ⟨b, i, rfl, h1, q⟩
theorem c_calc {H : Hp} {Q : VK} {E : XK} {o : Op} {a b : Int} (h1 : 0 ≤ a ∧ a < 65536) (h2 : 0 ≤ b ∧ b < 65536) (q : Q (optV (calc2 o a b)) H) : sp_calc [.str o.str, .int a, .int b] H Q E := ⟨o, a, b, rfl, h1, h2, q⟩
/-! ### value, place: by the depth -/
def sp_value (K : PySem.W.Frag) (d : Nat) : Sp := fun vs H Q _ => ∃ (e : Tm) (v : V) (a : Addr) (cs : List Int), vs = [v, .ref a] ∧ e.In H v ∧ e.ok cs.length ∧ e.deep ≤ d ∧ SqL K H a (cs.map V.int) ∧ Words cs ∧ Q (optV (ev cs e)) H
def sp_place (K : PySem.W.Frag) (d : Nat) : Sp := fun vs H Q _ => ∃ (e : Tm) (v : V) (a : Addr) (cs : List Int), vs = [v, .ref a] ∧ e.In H v ∧ e.ok cs.length ∧ e.tgt ∧ e.deep ≤ d ∧ SqL K H a (cs.map V.int) ∧ Words cs ∧ Q (optV (wh cs e)) H
theorem c_value {d : Nat} {e : Tm} {v : V} {a : Addr} {cs : List Int} {H : Hp} {Q : VK} {E : XK} (h1 : e.In H v) (h2 : e.ok cs.length) (h3 : e.deep ≤ d) (h4 : SqL K H a (cs.map V.int)) (h5 : Words cs) (q : Q (optV (ev cs e)) H) :
    sp_value K d [v, .ref a] H Q E := ⟨e, v, a, cs, rfl, h1, h2, h3, h4, h5, q⟩
theorem c_place {d : Nat} {e : Tm} {v : V} {a : Addr} {cs : List Int} {H : Hp} {Q : VK} {E : XK} (h1 : e.In H v) (h2 : e.ok cs.length) (h0 : e.tgt) (h3 : e.deep ≤ d) (h4 : SqL K H a (cs.map V.int)) (h5 : Words cs) (q : Q (optV (wh cs e)) H) :
    sp_place K d [v, .ref a] H Q E := ⟨e, v, a, cs, rfl, h1, h2, h0, h3, h4, h5, q⟩
theorem ok_place (T : Txt mg) (D : Dn K mg "place" s_place p_place) {d : Nat} (G_value : Cal P w K mg base "value" (2 * d + 1) p_value (sp_value K d)) : Cal P w K mg base "place" (2 * d + 2) p_place (sp_place K (d + 1)) := by
  refine D.ok sc_place (fun vs H Q E h => ?_) (fun f cdv A outer s H vs Q E hr h => ?_)
  · obtain ⟨_, _, _, _, rfl, _⟩ := h
    rfl
  obtain ⟨e, v, a, cs, rfl, hin, hok, ht, hd, hs, hw, q⟩ := h
  refine ⟨_, (pss_cons (ps_if (pt_cmpR (op_eqA (hu64 hr)) (pe_ix ix_seq (pv 0) pe_int (fun _ _ => rfl)) pe_str (nomark _)) (pss_one (ps_ret (pe_ix ix_seq (pv 0) pe_int (fun _ _ => rfl)))) pss_nil) (pss_cons (ps_asg (pv 0) (pg_tup rfl (pgs_cons (pg_name (i := 2) sc_place.nd rfl (by first | exact Or.inl rfl | exact Or.inr rfl)) (pgs_cons (pg_name (i := 3) sc_place.nd rfl (by first | exact Or.inl rfl | exact Or.inr rfl)) (pgs_cons (pg_name (i := 4) sc_place.nd rfl (by first | exact Or.inl rfl | exact Or.inr rfl)) (pgs_cons (pg_name (i := 5) sc_place.nd rfl (by first | exact Or.inl rfl | exact Or.inr rfl)) pgs_nil)))))) (pss_cons (ps_set (i := 6) sc_place.nd rfl (by first | exact Or.inl rfl | exact Or.inr rfl) (pe_cal G_value (hr.mono (by walk_at "lev")) rfl (pa_cons (pv 5) (pa_cons (pv 1) pa_nil)))) (pss_cons (ps_if (PW.pt (pw_or (pt_cmpR op_isN1 (pv 6) pe_non (nomark _)) (pw_or1 (pt_cmpR op_ge (pv 6) (pv 4) (nomark _))))) (pss_one (ps_ret pe_non)) pss_nil) (pss_one (ps_ret (pe_op op_addA (pv 3) (pv 6)))))))), ?_⟩
  try dsimp only [cxOf, Cx.nox]
  cases e <;> simp only [Tm.tgt] at ht
  case cell k =>
    obtain ⟨p, rfl, hp⟩ := hin
    repeat' walk_at "st"
  case «at» f s e =>
    obtain ⟨p, x, rfl, hp, hx⟩ := hin
    repeat' walk_at "st"
    simp only [Tm.deep] at hd
    refine c_value hx hok.2.2.2 (by omega) hs hw ?_
    simp only [wh] at q
    generalize ev cs e = o at q
    cases o <;> simp only [optV] at q ⊢ <;> (repeat' walk_at "st")
    · rw [if_pos (by assumption)] at q
      exact q
    · rw [if_neg (by assumption)] at q
      exact q
theorem ok_value (T : Txt mg) (D : Dn K mg "value" s_value p_value) (G_operate : Cal P w K mg base "operate" 2 p_operate sp_operate) (G_calculate : Cal P w K mg base "calculate" 2 p_calculate sp_calc) {d : Nat} (G_value : Cal P w K mg base "value" (2 * d + 1) p_value (sp_value K d))
    (G_place : Cal P w K mg base "place" (2 * d + 2) p_place (sp_place K (d + 1))) : Cal P w K mg base "value" (2 * d + 3) p_value (sp_value K (d + 1)) := by
  refine D.ok sc_value (fun vs H Q E h => ?_) (fun f cdv A outer s H vs Q E hr h => ?_)
  · obtain ⟨_, _, _, _, rfl, _⟩ := h
    rfl
  obtain ⟨e, v, a, cs, rfl, hin, hok, hd, hs, hw, q⟩ := h
  refine ⟨_, (pss_cons (ps_set (i := 2) sc_value.nd rfl (by first | exact Or.inl rfl | exact Or.inr rfl) (pe_ix ix_seq (pv 0) pe_int (fun _ _ => rfl))) (pss_cons (ps_if (pt_cmpR (op_eqA (hu64 hr)) (pv 2) pe_str (nomark _)) (pss_one (ps_ret (pe_ix ix_seq (pv 0) pe_int (fun _ _ => rfl)))) pss_nil) (pss_cons (ps_if (PW.pt (pw_or (pt_cmpR (op_eqA (hu64 hr)) (pv 2) pe_str (nomark _)) (pw_or1 (pt_cmpR (op_eqA (hu64 hr)) (pv 2) pe_str (nomark _))))) (pss_cons (ps_set (i := 5) sc_value.nd rfl (by first | exact Or.inl rfl | exact Or.inr rfl) (pe_cal G_place (hr.mono (by walk_at "lev")) rfl (pa_cons (pv 0) (pa_cons (pv 1) pa_nil)))) (pss_one (ps_ret (pe_ifExp (pt_cmpR op_isN1 (pv 5) pe_non (nomark _)) pe_non (pe_ix ix_seq (pv 1) (pv 5) (fun _ _ => rfl)))))) pss_nil) (pss_cons (ps_if (PW.pt (pw_or (pt_cmpR (op_eqA (hu64 hr)) (pv 2) pe_str (nomark _)) (pw_or1 (pt_cmpR (op_eqA (hu64 hr)) (pv 2) pe_str (nomark _))))) (pss_one (ps_ret (pe_cal G_operate (hr.mono (by walk_at "lev")) rfl (pa_cons (pv 2) (pa_cons (pe_cal G_value (hr.mono (by walk_at "lev")) rfl (pa_cons (pe_ix ix_seq (pv 0) pe_int (fun _ _ => rfl)) (pa_cons (pv 1) pa_nil))) pa_nil))))) pss_nil) (pss_cons (ps_set (i := 3) sc_value.nd rfl (by first | exact Or.inl rfl | exact Or.inr rfl) (pe_cal G_value (hr.mono (by walk_at "lev")) rfl (pa_cons (pe_ix ix_seq (pv 0) pe_int (fun _ _ => rfl)) (pa_cons (pv 1) pa_nil)))) (pss_cons (ps_set (i := 4) sc_value.nd rfl (by first | exact Or.inl rfl | exact Or.inr rfl) (pe_cal G_value (hr.mono (by walk_at "lev")) rfl (pa_cons (pe_ix ix_seq (pv 0) pe_int (fun _ _ => rfl)) (pa_cons (pv 1) pa_nil)))) (pss_cons (ps_if (PW.pt (pw_or (pt_cmpR op_isN1 (pv 3) pe_non (nomark _)) (pw_or1 (pt_cmpR op_isN1 (pv 4) pe_non (nomark _))))) (pss_one (ps_ret pe_non)) pss_nil) (pss_one (ps_ret (pe_cal G_calculate (hr.mono (by walk_at "lev")) rfl (pa_cons (pv 2) (pa_cons (pv 3) (pa_cons (pv 4) pa_nil))))))))))))), ?_⟩
  try dsimp only [cxOf, Cx.nox]
  have hin' := hin
  have hin0 := hin
  cases e
  case num n =>
    obtain ⟨p, rfl, hp⟩ := hin
    repeat' walk_at "st"
  case cell k =>
    obtain ⟨p, rfl, hp⟩ := hin
    repeat' walk_at "st"
    refine c_place hin0 hok trivial (by assumption) hs hw ?_
    have := hok.1
    have := hok.2
    simp only [wh, optV]
    repeat' walk_at "st"
  case «at» f s e =>
    obtain ⟨p, x, rfl, hp, hx⟩ := hin
    repeat' walk_at "st"
    refine c_place hin0 hok trivial (by assumption) hs hw ?_
    rw [ev_wh (e := .at f s e) trivial] at q
    have hk : ∀ k, wh cs (.at f s e) = some k → 0 ≤ k ∧ k < cs.length := fun k => wh_ok hw hok
    generalize wh cs (.at f s e) = o at q hk ⊢
    cases o
    · simp only [optV]
      repeat' walk_at "st"
    · obtain ⟨k0, k1⟩ := hk _ rfl
      simp only [optV]
      repeat' walk_at "st"
  case neg e =>
    obtain ⟨p, x, rfl, hp, hx⟩ := hin
    repeat' walk_at "st"
    simp only [Tm.deep] at hd
    refine c_value hx hok (by omega) hs hw ?_
    repeat' walk_at "st"
    refine c_operate (b := true) (fun z hz => ev_w hw (e := e) hok hz) ?_
    simp only [ev] at q
    generalize ev cs e = o at q ⊢
    cases o <;> exact q
  case not e =>
    obtain ⟨p, x, rfl, hp, hx⟩ := hin
    repeat' walk_at "st"
    simp only [Tm.deep] at hd
    refine c_value hx hok (by omega) hs hw ?_
    repeat' walk_at "st"
    refine c_operate (b := false) (fun z hz => ev_w hw (e := e) hok hz) ?_
    simp only [ev] at q
    generalize ev cs e = o at q ⊢
    cases o <;> exact q
  case bin o e g =>
    obtain ⟨p, x, y, rfl, hp, hx, hy⟩ := hin
    have hl : ev cs e = ev cs e := rfl
    simp only [Tm.deep] at hd
    simp only [ev] at q
    have h1 : ∀ z, ev cs e = some z → 0 ≤ z ∧ z < 65536 := fun z => ev_w hw hok.1
    have h2 : ∀ z, ev cs g = some z → 0 ≤ z ∧ z < 65536 := fun z => ev_w hw hok.2
    repeat' walk_at "st"
    all_goals refine c_value hx hok.1 (by omega) hs hw ?_
    all_goals (repeat' walk_at "st")
    all_goals refine c_value hy hok.2 (by omega) hs hw ?_
    all_goals generalize ev cs e = o1 at q h1 ⊢
    all_goals generalize ev cs g = o2 at q h2 ⊢
    all_goals (cases o1 <;> cases o2 <;> simp only [optV] at q ⊢ <;> (repeat' walk_at "st"))
    all_goals exact c_calc (h1 _ rfl) (h2 _ rfl) q
theorem value_none (D : Dn K mg "value" s_value p_value) : Cal P w K mg base "value" 1 p_value (sp_value K 0) := by
  refine D.ok sc_value (fun vs H Q E h => ?_) (fun f cdv A outer s H vs Q E hr h => ?_)
  · obtain ⟨_, _, _, _, rfl, _⟩ := h
    rfl
  · obtain ⟨e, _, _, _, _, _, _, h, _⟩ := h
    exact absurd (e.deep_pos) (by omega)
theorem value_all (T : Txt mg) (D : Dn K mg "value" s_value p_value) (D' : Dn K mg "place" s_place p_place) (G_operate : Cal P w K mg base "operate" 2 p_operate sp_operate) (G_calculate : Cal P w K mg base "calculate" 2 p_calculate sp_calc) : ∀ d,
    Cal P w K mg base "value" (2 * d + 1) p_value (sp_value K d) ∧ Cal P w K mg base "place" (2 * d + 2) p_place (sp_place K (d + 1))
  | 0 => ⟨value_none D, ok_place T D' (value_none D)⟩
  | d + 1 => by
    have ih := value_all T D D' G_operate G_calculate d
    have h := ok_value T D G_operate G_calculate ih.1 ih.2
    exact ⟨h, ok_place T D' h⟩
abbrev s__law_state : Stmt := topS 10
theorem sc__law_state : FnScope ["script", "seed", "cell"] ["script"] (defScope s__law_state) := ⟨rfl, rfl, rfl, by decide +kernel, rfl, by decide +kernel, by decide +kernel⟩
abbrev p__law_state : List Str := ["script"]
abbrev s__law_draw : Stmt := topS 11
theorem sc__law_draw : FnScope ["state", "many", "cells", "mixed", "number"] ["state", "many"] (defScope s__law_draw) := ⟨rfl, rfl, rfl, by decide +kernel, rfl, by decide +kernel, by decide +kernel⟩
abbrev p__law_draw : List Str := ["state", "many"]
abbrev s__law_pick : Stmt := topS 12
theorem sc__law_pick : FnScope ["state", "row"] ["state", "row"] (defScope s__law_pick) := ⟨rfl, rfl, rfl, by decide +kernel, rfl, by decide +kernel, by decide +kernel⟩
abbrev p__law_pick : List Str := ["state", "row"]
/-! ### the draws' state -/
structure StOk (st c : Addr) (H : Hp) : Prop where
  ex : ∃ (ns : List Int) (s : Int), H st = some (.lst [.ref c, .int s]) ∧ H c = some (.lst (ns.map V.int)) ∧ (∀ n ∈ ns, 0 ≤ n) ∧ 0 ≤ s ∧ s < 2147483648
  ne : c ≠ st
theorem st_ex {st c : Addr} {H H' : Hp} (e : Ex H H') (h : StOk st c H) : StOk st c H' := by
  obtain ⟨⟨ns, s, a, b, d⟩, n⟩ := h
  exact ⟨⟨ns, s, e _ _ a, e _ _ b, d⟩, n⟩
/-- a fresh address is neither -/
theorem st_fresh {st c p : Addr} {H : Hp} (h : StOk st c H) (hp : H p = none) : p ∉ [st, c] := by
  obtain ⟨⟨ns, s, a, b, d⟩, n⟩ := h
  simp only [List.mem_cons, List.not_mem_nil, or_false, not_or]
  exact ⟨(ne_of_none a hp).symm, (ne_of_none b hp).symm⟩
local macro_rules | `(tactic| walk_at "st_ok") => `(tactic| first
  | assumption
  | (refine st_ex (by assumption) ?_; walk_at "st_ok"))
local macro_rules | `(tactic| walk_at "nin") => `(tactic| first
  | assumption
  | (refine st_fresh (H := ?H) ?a ?b; (case b => assumption); (case a => walk_at "st_ok")))
local macro_rules | `(tactic| walk_at "kp") => `(tactic| first
  | assumption
  | exact Kp.refl _
  | (refine Kp.trans ?_ (by assumption); walk_at "kp")
  | (refine Kp.trans ?_ (Ex.kp (by assumption)); walk_at "kp"))
theorem int_mod (a : Int) {m : Int} (h : 0 < m) : 0 ≤ a % m ∧ a % m < m := ⟨Int.emod_nonneg _ (by omega), Int.emod_lt_of_pos _ h⟩
def sp_state (K : PySem.W.Frag) : Sp := fun vs H Q _ => ∃ (a : Addr) (ns : List Int), vs = [.ref a] ∧ SqL K H a (ns.map V.int) ∧ ns.length ≤ 63 ∧ ∀ st c H', Ex H H' → H st = none → H c = none → StOk st c H' → Q (.ref st) H'
theorem ex_sql {H H' : Hp} {a : Addr} {xs : List V} (e : Ex H H') (h : SqL K H a xs) : SqL K H' a xs := e.same.seq h
theorem abs_nn (i : Int) : 0 ≤ (if i < 0 then -i else i) := by split <;> omega
theorem ok_state (T : Txt mg) (D : Dn K mg "_law_state" s__law_state p__law_state) : Cal P w K mg base "_law_state" 1 p__law_state (sp_state K) := by
  refine D.ok sc__law_state (fun vs H Q E h => ?_) (fun f cdv A outer s H vs Q E hr h => ?_)
  · obtain ⟨_, _, rfl, _⟩ := h
    rfl
  obtain ⟨a, ns, rfl, hs, hl, q⟩ := h
  refine ⟨_, (pss_cons (ps_set (i := 1) sc__law_state.nd rfl (by first | exact Or.inl rfl | exact Or.inr rfl) pe_int) (pss_cons (ps_for PassesOwn.never rfl (pi_list (pv 0)) (pg_name (i := 2) sc__law_state.nd rfl (by first | exact Or.inl rfl | exact Or.inr rfl)) (pss_one (ps_set (i := 1) sc__law_state.nd rfl (by first | exact Or.inl rfl | exact Or.inr rfl) (pe_op op_mod (pe_callTy call_intA rfl T.n_int (by decide +kernel) (pa_cons (pe_op op_addA (pe_op op_mul (pv 1) pe_int) (pv 2)) pa_nil)) pe_int)))) (pss_one (ps_ret (pe_lst (pa_cons (pe_lc (own := [("cell", 2)]) (tt := tYes) rfl sc__law_state.nd (pi_list (pv 0)) (blkOk_by (N := ["script", "seed", "cell"]) (sc := defScope s__law_state) (by decide +kernel)) (fun _ _ _ _ _ => (pg_name (i := 2) sc__law_state.nd rfl (by first | exact Or.inl rfl | exact Or.inr rfl))) (fun _ _ _ _ _ => pts_nil) (fun _ _ _ _ _ => (pe_callB call_absA rfl T.n_abs (by decide +kernel) (pa_cons (pv 2) pa_nil)))) (pa_cons (pe_op op_addA (pv 1) pe_int) pa_nil))))))), ?_⟩
  try dsimp only [cxOf, Cx.nox]
  repeat' walk_at "st"
  refine w_list (xs := ns.map V.int) (fun i σ H' => H' = H ∧ ∃ (z : Int) (y : Option V), σ = [some (.ref a), some (.int z), y] ∧ 0 ≤ z ∧ z < 1000003) ?_ ?_ ?_ ?_
  · exact ⟨rfl, 7, none, rfl, by decide, by decide⟩
  · rintro i σ H' _ ⟨rfl, _⟩
    exact hs
  · rintro i x σ H' hx ⟨rfl, z, y, rfl, z0, z1⟩
    rw [List.getElem?_map] at hx
    obtain ⟨n, hn, rfl⟩ := Option.map_eq_some_iff.mp hx
    repeat' walk_at "st"
    refine ⟨rfl, _, some (.int n), rfl, ?_⟩
    exact int_mod _ (by decide)
  · rintro σ H' ⟨rfl, z, y, rfl, z0, z1⟩
    repeat' walk_at "st"
    intro L hL
    refine lc_list (xs := ns.map V.int) (fun i H2 => Ex H' H2 ∧ H2 L = some (.lst ((ns.take i).map fun n => V.int (if n < 0 then -n else n)))) ?_ ?_ ?_ ?_
    · exact ⟨Ex.mk hL rfl, upd_same⟩
    · rintro i H2 _ ⟨e, _⟩
      exact ex_sql e hs
    · rintro i x H2 hx ⟨e, h2⟩
      rw [List.getElem?_map] at hx
      obtain ⟨n, hn, rfl⟩ := Option.map_eq_some_iff.mp hx
      refine ⟨rfl, ?_⟩
      repeat' walk_at "st"
      refine ⟨_, h2, sl1000' ?_, ?_, ?_⟩
      · rw [List.length_map, List.length_take]
        omega
      · intro b u hb
        rw [upd_ne (ne_of_none hb hL)]
        exact e _ _ hb
      · rw [upd_same, List.take_add_one, hn, List.map_append]
        rfl
    · rintro H2 ⟨e, h2⟩
      repeat' walk_at "st"
      rw [List.take_of_length_le (by rw [List.length_map]; exact Nat.le_refl _)] at h2
      refine q p L _ (e.trans ke) (free_back e hp) hL ⟨⟨ns.map fun n => (if n < 0 then -n else n), z + 1, hn, ?_, ?_, by omega, by omega⟩, ?_⟩
      · rw [List.map_map]
        exact ke _ _ h2
      · intro n hn
        obtain ⟨m, _, rfl⟩ := List.mem_map.mp hn
        exact abs_nn m
      · exact ne_of_none h2 hp
def sp_draw : Sp := fun vs H Q _ => ∃ (st c : Addr) (many : Int), vs = [.ref st, .int many] ∧ StOk st c H ∧ 0 < many ∧ many < 1073741824 ∧ ∀ (n : Int) (H' : Hp), 0 ≤ n → n < many → Kp [st, c] H H' → StOk st c H' → Q (.int n) H'
theorem ok_draw (T : Txt mg) (D : Dn K mg "_law_draw" s__law_draw p__law_draw) : Cal P w K mg base "_law_draw" 1 p__law_draw sp_draw := by
  refine D.ok sc__law_draw (fun vs H Q E h => ?_) (fun f cdv A outer s H vs Q E hr h => ?_)
  · obtain ⟨_, _, _, rfl, _⟩ := h
    rfl
  obtain ⟨st, c, many, rfl, ⟨⟨ns, z, hst, hc, hn, z0, z1⟩, hne⟩, m0, m1, q⟩ := h
  refine ⟨_, (pss_cons (ps_set (i := 2) sc__law_draw.nd rfl (by first | exact Or.inl rfl | exact Or.inr rfl) (pe_ix ix_seq (pv 0) pe_int (fun _ _ => rfl))) (pss_cons (ps_while PassesOwn.never (PW.pt (pw_and (pt_cmpR op_gt (pe_callB call_lenA rfl T.n_len (by decide +kernel) (pa_cons (pv 2) pa_nil)) pe_int (nomark _)) (pw_and1 (pt_cmpR (op_eqA (hu64 hr)) (pe_ix ix_seq (pv 2) pe_int (fun _ _ => rfl)) pe_int (nomark _))))) (pss_one (ps_expr (pe_bm PySem.F.plainAttrs_list PySem.F.slot_list_pop PySem.F.type_list_pop mt_popAt (pv 2) (pa_cons pe_int pa_nil))))) (pss_cons (ps_if (pt_cmpR op_gt (pe_callB call_lenA rfl T.n_len (by decide +kernel) (pa_cons (pv 2) pa_nil)) pe_int (nomark _)) (pss_cons (ps_set (i := 4) sc__law_draw.nd rfl (by first | exact Or.inl rfl | exact Or.inr rfl) (pe_ix ix_seq (pv 2) pe_int (fun _ _ => rfl))) (pss_cons (ps_asg (pe_op op_fdiv (pv 4) (pv 1)) (pg_sub (pv 2) pe_int set_list)) (pss_one (ps_ret (pe_op op_mod (pe_callTy call_intA rfl T.n_int (by decide +kernel) (pa_cons (pv 4) pa_nil)) (pv 1)))))) pss_nil) (pss_cons (ps_set (i := 3) sc__law_draw.nd rfl (by first | exact Or.inl rfl | exact Or.inr rfl) (pe_op op_mod (pe_callTy call_intA rfl T.n_int (by decide +kernel) (pa_cons (pe_op op_addA (pe_op op_mul (pe_ix ix_seq (pv 0) pe_int (fun _ _ => rfl)) pe_int) pe_int) pa_nil)) pe_int)) (pss_cons (ps_asg (pv 3) (pg_sub (pv 0) pe_int set_list)) (pss_one (ps_ret (pe_op op_mod (pe_callTy call_intA rfl T.n_int (by decide +kernel) (pa_cons (pe_op op_fdiv (pv 3) pe_int) pa_nil)) (pv 1))))))))), ?_⟩
  try dsimp only [cxOf, Cx.nox]
  repeat' walk_at "st"
  refine w_while (fun m σ H' => ∃ ns' : List Int, m = ns'.length ∧ σ = [some (.ref st), some (.int many), some (.ref c), none, none] ∧ H' st = some (.lst [.ref c, .int z]) ∧ H' c = some (.lst (ns'.map V.int)) ∧ (∀ n ∈ ns', 0 ≤ n) ∧ Kp [st, c] H H') ns.length ⟨ns, rfl, rfl, hst, hc, hn, Kp.refl _⟩ ?_ ?_
  · rintro m σ H' ⟨ns', rfl, rfl, h1, h2, h3, h4⟩
    have mc : c ∈ [st, c] := by simp
    have mst : st ∈ [st, c] := by simp
    have ht : ∀ xs, H' st ≠ some (.tup xs) := fun xs e => by rw [h1] at e; cases e
    have hu : ∀ xs, H' c ≠ some (.tup xs) := fun xs e => by rw [h2] at e; cases e
    cases ns' with
    | nil =>
      repeat' walk_at "st"
      refine q_setL (j := 1) h1 rfl ?_
      generalize hq : upd H' st _ = H2
      repeat' walk_at "st"
      have hz := int_mod (z * 48271 + 12345) (m := 2147483647) (by decide)
      refine q _ H2 (int_mod _ m0).1 (int_mod _ m0).2 (h4.trans (Kp.set mst ht hq)) ⟨⟨[], _, at_new hq, ?_, h3, hz.1, Int.lt_trans hz.2 (by decide)⟩, hne⟩
      rw [← hq, upd_ne hne]
      exact h2
    | cons n r =>
      rw [List.map_cons] at h2
      have hn0 := h3 n (List.mem_cons_self ..)
      have hr0 : ∀ n ∈ r, 0 ≤ n := fun k hk => h3 k (List.mem_cons_of_mem _ hk)
      repeat' walk_at "st"
      · refine q_tyL h2 ?_
        repeat' walk_at "st"
        refine q_pop0 h2 ?_
        refine ⟨r.length, Nat.lt_succ_self _, r, rfl, rfl, ?_, upd_same, hr0, h4.trans (Kp.set mc hu rfl)⟩
        rw [upd_ne (Ne.symm hne)]
        exact h1
      · refine q_setL (j := 0) h2 ix0 ?_
        generalize hq : upd H' c _ = H2
        repeat' walk_at "st"
        refine q _ H2 (int_mod _ m0).1 (int_mod _ m0).2 (h4.trans (Kp.set mc hu hq)) ⟨⟨n / many :: r, z, ?_, at_new hq, ?_, z0, z1⟩, hne⟩
        · rw [← hq, upd_ne (Ne.symm hne)]
          exact h1
        · intro k hk
          rcases List.mem_cons.mp hk with rfl | hk
          · exact Int.ediv_nonneg hn0 (by omega)
          · exact hr0 _ hk
  · intro σ H Q Q' hQ h
    exact mo_and (mo_test (mo_op mo_I0 (mo_cb mo_lenA (mo_cons mo_var mo_nil)) mo_c)) (mo_test (mo_op mo_eqA (mo_op mo_ix mo_var mo_c) mo_c)) _ _ _ _ hQ h
theorem c_draw {st c : Addr} {many : Int} {H : Hp} {Q : VK} {E : XK} (h1 : StOk st c H) (h2 : 0 < many ∧ many < 1073741824) (q : ∀ (n : Int) (H' : Hp), 0 ≤ n → n < many → Kp [st, c] H H' → StOk st c H' → Q (.int n) H') :
    sp_draw [.ref st, .int many] H Q E := ⟨st, c, many, rfl, h1, h2.1, h2.2, q⟩
set_option hygiene false in
local macro_rules | `(tactic| walk_at "i_c_draw") => `(tactic| intro dn Hn n0 n1 ke so)
local macro_rules | `(tactic| walk_at "own") => `(tactic| (refine c_draw (c := ?c) ?a ?b ?_; (case a => walk_at "st_ok"); (case b => walk_at "arx2"); walk_at "i_c_draw"))
local macro_rules | `(tactic| walk_at "arx2") => `(tactic| first
  | (refine And.intro ?_ ?_ <;> omega)
  | (simp only [List.length_cons, List.length_nil, List.length_map]; refine And.intro ?_ ?_ <;> omega))
def sp_pick (K : PySem.W.Frag) : Sp := fun vs H Q _ => ∃ (st c a : Addr) (xs : List V), vs = [.ref st, .ref a] ∧ StOk st c H ∧ H a = some (.lst xs) ∧ a ∉ [st, c] ∧ 0 < xs.length ∧ xs.length < 1000000 ∧ ∀ (i : Nat) (v : V) (H' : Hp), xs[i]? = some v → Kp [st, c] H H' → StOk st c H' → Q v H'
theorem ok_pick (T : Txt mg) (D : Dn K mg "_law_pick" s__law_pick p__law_pick) (G__law_draw : Cal P w K mg base "_law_draw" 1 p__law_draw sp_draw) : Cal P w K mg base "_law_pick" 2 p__law_pick (sp_pick K) := by
  refine D.ok sc__law_pick (fun vs H Q E h => ?_) (fun f cdv A outer s H vs Q E hr h => ?_)
  · obtain ⟨_, _, _, _, rfl, _⟩ := h
    rfl
  obtain ⟨st, c, a, xs, rfl, so, ha, hn, l0, l1, q⟩ := h
  refine ⟨_, (pss_one (ps_ret (pe_ix ix_seq (pv 1) (pe_cal G__law_draw (hr.mono (by walk_at "lev")) rfl (pa_cons (pv 0) (pa_cons (pe_callB call_lenA rfl T.n_len (by decide +kernel) (pa_cons (pv 1) pa_nil)) pa_nil))) (fun _ _ => rfl)))), ?_⟩
  try dsimp only [cxOf, Cx.nox]
  repeat' walk_at "st"
  obtain ⟨v, e1, e2⟩ := at_i (n := dn) n0 n1
  exact q_ixL (sql (ke.out _ _ hn ha)) e2 (q _ v Hn e1 ke so)
theorem c_pick {st c a : Addr} {xs : List V} {H : Hp} {Q : VK} {E : XK} (h1 : StOk st c H) (h2 : H a = some (.lst xs)) (h3 : a ∉ [st, c]) (h4 : 0 < xs.length ∧ xs.length < 1000000) (q : ∀ (i : Nat) (v : V) (H' : Hp), xs[i]? = some v → Kp [st, c] H H' → StOk st c H' → Q v H') :
    sp_pick K [.ref st, .ref a] H Q E := ⟨st, c, a, xs, rfl, h1, h2, h3, h4.1, h4.2, q⟩
set_option hygiene false in
local macro_rules | `(tactic| walk_at "i_c_pick") => `(tactic| intro j v Hn ej ke so)
local macro_rules | `(tactic| walk_at "own") => `(tactic| (refine c_pick (c := ?c) (xs := ?xs) ?a ?b ?e ?d ?_; (case b => walk_at "lift"); (case a => walk_at "st_ok"); (case e => walk_at "nin"); (case d => walk_at "arx2"); walk_at "i_c_pick"))
theorem pk_int {xs : List Int} {i : Nat} {v : V} (h : (xs.map V.int)[i]? = some v) : ∃ k, k ∈ xs ∧ v = .int k := by
  obtain ⟨k, hk, e⟩ := List.mem_map.mp (List.mem_of_getElem? h)
  exact ⟨k, hk, e.symm⟩
abbrev s__law_number : Stmt := topS 13
theorem sc__law_number : FnScope ["state"] ["state"] (defScope s__law_number) := ⟨rfl, rfl, rfl, by decide +kernel, rfl, by decide +kernel, by decide +kernel⟩
abbrev p__law_number : List Str := ["state"]
abbrev s__law_operator : Stmt := topS 14
theorem sc__law_operator : FnScope ["state"] ["state"] (defScope s__law_operator) := ⟨rfl, rfl, rfl, by decide +kernel, rfl, by decide +kernel, by decide +kernel⟩
abbrev p__law_operator : List Str := ["state"]
abbrev s__law_index : Stmt := topS 15
theorem sc__law_index : FnScope ["state", "env", "size", "cell"] ["state", "env", "size"] (defScope s__law_index) := ⟨rfl, rfl, rfl, by decide +kernel, rfl, by decide +kernel, by decide +kernel⟩
abbrev p__law_index : List Str := ["state", "env", "size"]
abbrev s__law_read : Stmt := topS 16
theorem sc__law_read : FnScope ["state", "env", "first", "size"] ["state", "env"] (defScope s__law_read) := ⟨rfl, rfl, rfl, by decide +kernel, rfl, by decide +kernel, by decide +kernel⟩
abbrev p__law_read : List Str := ["state", "env"]
abbrev s__law_expression : Stmt := topS 17
theorem sc__law_expression : FnScope ["state", "env", "deep", "kind", "first"] ["state", "env", "deep"] (defScope s__law_expression) := ⟨rfl, rfl, rfl, by decide +kernel, rfl, by decide +kernel, by decide +kernel⟩
abbrev p__law_expression : List Str := ["state", "env", "deep"]
abbrev s__law_target : Stmt := topS 18
theorem sc__law_target : FnScope ["state", "env", "first", "size"] ["state", "env"] (defScope s__law_target) := ⟨rfl, rfl, rfl, by decide +kernel, rfl, by decide +kernel, by decide +kernel⟩
abbrev p__law_target : List Str := ["state", "env"]
/-! ### what an env holds: cells, reads, spans, all over n cells, none of its objects the draws' -/
structure EnvM (n : Int) (M : List Addr) (e : Addr) (H : Hp) : Prop where
  ex : ∃ (kvs : List (Key × V)) (ca ra sa : Addr) (cells reads : List Int) (spans : List V), H e = some (.dK kvs) ∧ valV kvs (Sum.inr "cells") = some (.ref ca) ∧ valV kvs (Sum.inr "reads") = some (.ref ra) ∧ valV kvs (Sum.inr "spans") = some (.ref sa) ∧
    H ca = some (.lst (cells.map V.int)) ∧ H ra = some (.lst (reads.map V.int)) ∧ H sa = some (.lst spans) ∧ (∀ k ∈ cells, 0 ≤ k ∧ k < n) ∧ (∀ k ∈ reads, 0 ≤ k ∧ k < n) ∧
    (∀ v ∈ spans, ∃ p f s, v = V.ref p ∧ H p = some (HO.tup [.int f, .int s]) ∧ 0 ≤ f ∧ 0 < s ∧ f + s ≤ n ∧ s < 65536) ∧ 0 < cells.length ∧ 0 < reads.length ∧ cells.length < 1000 ∧ reads.length < 1000 ∧ spans.length < 1000 ∧
    e ∉ M ∧ ca ∉ M ∧ ra ∉ M ∧ sa ∉ M
abbrev EnvOk (n : Int) (st c e : Addr) (H : Hp) : Prop := EnvM n [st, c] e H
theorem env_kp {n : Int} {M : List Addr} {e : Addr} {H H' : Hp} (k : Kp M H H') (h : EnvM n M e H) : EnvM n M e H' := by
  obtain ⟨kvs, ca, ra, sa, cells, reads, spans, h1, h2, h3, h4, h5, h6, h7, h8, h9, h10, h11, h12, l1, l2, l3, m1, m2, m3, m4⟩ := h
  refine ⟨kvs, ca, ra, sa, cells, reads, spans, k.out _ _ m1 h1, h2, h3, h4, k.out _ _ m2 h5, k.out _ _ m3 h6, k.out _ _ m4 h7, h8, h9, fun v hv => ?_, h11, h12, l1, l2, l3, m1, m2, m3, m4⟩
  obtain ⟨p, f, s, e, a, b⟩ := h10 v hv
  exact ⟨p, f, s, e, k.tup _ _ a, b⟩
theorem env_ex {n : Int} {M : List Addr} {e : Addr} {H H' : Hp} (k : Ex H H') (h : EnvM n M e H) : EnvM n M e H' := env_kp k.kp h
theorem env_sub {n : Int} {M N : List Addr} {e : Addr} {H : Hp} (s : ∀ x, x ∈ N → x ∈ M) (h : EnvM n M e H) : EnvM n N e H := by
  obtain ⟨kvs, ca, ra, sa, cells, reads, spans, h1, h2, h3, h4, h5, h6, h7, h8, h9, h10, h11, h12, l1, l2, l3, m1, m2, m3, m4⟩ := h
  exact ⟨kvs, ca, ra, sa, cells, reads, spans, h1, h2, h3, h4, h5, h6, h7, h8, h9, h10, h11, h12, l1, l2, l3, fun z => m1 (s _ z), fun z => m2 (s _ z), fun z => m3 (s _ z), fun z => m4 (s _ z)⟩
local macro_rules | `(tactic| walk_at "env") => `(tactic| first
  | assumption
  | (refine env_ex (by assumption) ?_; walk_at "env")
  | (refine env_kp (by assumption) ?_; walk_at "env"))
local macro_rules | `(tactic| walk_at "tm") => `(tactic| first
  | assumption
  | (refine tm_ex (by assumption) ?_; walk_at "tm")
  | (refine tm_kp (by assumption) ?_; walk_at "tm"))
def sp_number : Sp := fun vs H Q _ => ∃ (st c : Addr), vs = [.ref st] ∧ StOk st c H ∧ ∀ (k : Int) (v : V) (H' : Hp), 0 ≤ k → k < 65536 → (Tm.num k).In H' v → Kp [st, c] H H' → StOk st c H' → Q v H'
theorem ok_number (T : Txt mg) (D : Dn K mg "_law_number" s__law_number p__law_number) (G__law_draw : Cal P w K mg base "_law_draw" 1 p__law_draw sp_draw) (G__law_pick : Cal P w K mg base "_law_pick" 2 p__law_pick (sp_pick K)) :
    Cal P w K mg base "_law_number" 3 p__law_number sp_number := by
  refine D.ok sc__law_number (fun vs H Q E h => ?_) (fun f cdv A outer s H vs Q E hr h => ?_)
  · obtain ⟨_, _, rfl, _⟩ := h
    rfl
  obtain ⟨st, c, rfl, so, q⟩ := h
  refine ⟨_, (pss_one (ps_ret (pe_tup (pa_cons pe_str (pa_cons (pe_cal G__law_pick (hr.mono (by walk_at "lev")) rfl (pa_cons (pv 0) (pa_cons (pe_lst (pa_cons pe_int (pa_cons pe_int (pa_cons pe_int (pa_cons pe_int (pa_cons (pe_cal G__law_draw (hr.mono (by walk_at "lev")) rfl (pa_cons (pv 0) (pa_cons pe_int pa_nil))) (pa_cons pe_int (pa_cons (pe_cal G__law_draw (hr.mono (by walk_at "lev")) rfl (pa_cons (pv 0) (pa_cons pe_int pa_nil))) pa_nil)))))))) pa_nil))) pa_nil))))), ?_⟩
  try dsimp only [cxOf, Cx.nox]
  repeat' walk_at "st"
  have hv := List.mem_of_getElem? ej
  simp only [List.mem_cons, List.not_mem_nil, or_false] at hv
  have hk : ∃ k, v = .int k ∧ 0 ≤ k ∧ k < 65536 := by
    rcases hv with rfl | rfl | rfl | rfl | rfl | rfl | rfl <;> exact ⟨_, rfl, by omega, by omega⟩
  obtain ⟨k, rfl, k0, k1⟩ := hk
  exact q k _ _ k0 k1 ⟨_, rfl, hn⟩ (by walk_at "kp") (by walk_at "st_ok")
theorem c_number {st c : Addr} {H : Hp} {Q : VK} {E : XK} (h1 : StOk st c H) (q : ∀ (k : Int) (v : V) (H' : Hp), 0 ≤ k → k < 65536 → (Tm.num k).In H' v → Kp [st, c] H H' → StOk st c H' → Q v H') : sp_number [.ref st] H Q E := ⟨st, c, rfl, h1, q⟩
set_option hygiene false in
local macro_rules | `(tactic| walk_at "i_c_number") => `(tactic| intro nk v Hn k0 k1 iv ke so)
local macro_rules | `(tactic| walk_at "own") => `(tactic| (refine c_number (c := ?c) ?a ?_; (case a => walk_at "st_ok"); walk_at "i_c_number"))
def sp_operator : Sp := fun vs H Q _ => ∃ (st c : Addr), vs = [.ref st] ∧ StOk st c H ∧ ∀ (o : Op) (H' : Hp), Kp [st, c] H H' → StOk st c H' → Q (.str o.str) H'
theorem ok_operator (T : Txt mg) (D : Dn K mg "_law_operator" s__law_operator p__law_operator) (G__law_draw : Cal P w K mg base "_law_draw" 1 p__law_draw sp_draw) (G__law_pick : Cal P w K mg base "_law_pick" 2 p__law_pick (sp_pick K)) :
    Cal P w K mg base "_law_operator" 3 p__law_operator sp_operator := by
  refine D.ok sc__law_operator (fun vs H Q E h => ?_) (fun f cdv A outer s H vs Q E hr h => ?_)
  · obtain ⟨_, _, rfl, _⟩ := h
    rfl
  obtain ⟨st, c, rfl, so, q⟩ := h
  refine ⟨_, (pss_one (ps_ret (pe_cal G__law_pick (hr.mono (by walk_at "lev")) rfl (pa_cons (pv 0) (pa_cons (pe_lst (pa_cons pe_str (pa_cons pe_str (pa_cons pe_str (pa_cons pe_str (pa_cons pe_str (pa_cons pe_str (pa_cons pe_str (pa_cons pe_str (pa_cons pe_str (pa_cons pe_str (pa_cons pe_str (pa_cons pe_str (pa_cons (pe_cal G__law_pick (hr.mono (by walk_at "lev")) rfl (pa_cons (pv 0) (pa_cons (pe_lst (pa_cons pe_str (pa_cons pe_str pa_nil))) pa_nil))) pa_nil)))))))))))))) pa_nil))))), ?_⟩
  try dsimp only [cxOf, Cx.nox]
  repeat' walk_at "st"
  rename_i j1 v1 H2 ej1 k1 s1 H3 k3
  have hw := List.mem_of_getElem? ej1
  have hv := List.mem_of_getElem? ej
  simp only [List.mem_cons, List.not_mem_nil, or_false] at hv hw
  have hk : ∃ o : Op, v = .str o.str := by
    rcases hv with rfl | rfl | rfl | rfl | rfl | rfl | rfl | rfl | rfl | rfl | rfl | rfl | rfl
    · exact ⟨.add, rfl⟩
    · exact ⟨.sub, rfl⟩
    · exact ⟨.mul, rfl⟩
    · exact ⟨.add, rfl⟩
    · exact ⟨.sub, rfl⟩
    · exact ⟨.and, rfl⟩
    · exact ⟨.or, rfl⟩
    · exact ⟨.eq, rfl⟩
    · exact ⟨.ne, rfl⟩
    · exact ⟨.lt, rfl⟩
    · exact ⟨.le, rfl⟩
    · exact ⟨.add, rfl⟩
    · rcases hw with rfl | rfl
      · exact ⟨.div, rfl⟩
      · exact ⟨.mod, rfl⟩
  obtain ⟨o, rfl⟩ := hk
  exact q o _ (by walk_at "kp") (by walk_at "st_ok")
theorem c_operator {st c : Addr} {H : Hp} {Q : VK} {E : XK} (h1 : StOk st c H) (q : ∀ (o : Op) (H' : Hp), Kp [st, c] H H' → StOk st c H' → Q (.str o.str) H') : sp_operator [.ref st] H Q E := ⟨st, c, rfl, h1, q⟩
set_option hygiene false in
local macro_rules | `(tactic| walk_at "i_c_operator") => `(tactic| intro o Hn ke so)
local macro_rules | `(tactic| walk_at "own") => `(tactic| (refine c_operator (c := ?c) ?a ?_; (case a => walk_at "st_ok"); walk_at "i_c_operator"))
def sp_index (n : Int) : Sp := fun vs H Q _ => ∃ (st c e : Addr) (s : Int), vs = [.ref st, .ref e, .int s] ∧ StOk st c H ∧ EnvOk n st c e H ∧ 0 < s ∧ s < 65536 ∧ ∀ (t : Tm) (v : V) (H' : Hp), t.In H' v → t.ok n → t.deep ≤ 2 → Kp [st, c] H H' → StOk st c H' → Q v H'
theorem ok_index (T : Txt mg) (D : Dn K mg "_law_index" s__law_index p__law_index) (G__law_draw : Cal P w K mg base "_law_draw" 1 p__law_draw sp_draw) (G__law_pick : Cal P w K mg base "_law_pick" 2 p__law_pick (sp_pick K)) (n : Int) :
    Cal P w K mg base "_law_index" 3 p__law_index (sp_index n) := by
  refine D.ok sc__law_index (fun vs H Q E h => ?_) (fun f cdv A outer s H vs Q E hr h => ?_)
  · obtain ⟨_, _, _, _, rfl, _⟩ := h
    rfl
  obtain ⟨st, c, e, s, rfl, so, en, s0, s1, q⟩ := h
  refine ⟨_, (pss_cons (ps_set (i := 3) sc__law_index.nd rfl (by first | exact Or.inl rfl | exact Or.inr rfl) (pe_tup (pa_cons pe_str (pa_cons (pe_cal G__law_pick (hr.mono (by walk_at "lev")) rfl (pa_cons (pv 0) (pa_cons (pe_dget (hu_of hr) (pv 1) pe_str (fun _ _ => rfl)) pa_nil))) pa_nil)))) (pss_one (ps_ret (pe_ifExp (pt_cmpR (op_eqA (hu64 hr)) (pe_cal G__law_draw (hr.mono (by walk_at "lev")) rfl (pa_cons (pv 0) (pa_cons pe_int pa_nil))) pe_int (nomark _)) (pv 3) (pe_tup (pa_cons pe_str (pa_cons (pv 3) (pa_cons (pe_tup (pa_cons pe_str (pa_cons (pv 2) pa_nil))) pa_nil)))))))), ?_⟩
  try dsimp only [cxOf, Cx.nox]
  obtain ⟨kvs, ca, ra, sa, cells, reads, spans, h1, h2, h3, h4, h5, h6, h7, h8, h9, h10, l0, l1, l2, l3, l4, m1, m2, m3, m4⟩ := en
  repeat' walk_at "st"
  all_goals (obtain ⟨k, hk, rfl⟩ := pk_int (by assumption : (reads.map V.int)[_]? = some _))
  all_goals have hb := h9 k hk
  · exact q (.cell k) _ _ ⟨_, rfl, by walk_at "lift"⟩ hb (by simp [Tm.deep]) (by walk_at "kp") (by walk_at "st_ok")
  · exact q (.bin .mod (.cell k) (.num s)) _ _ ⟨_, _, _, rfl, by assumption, ⟨_, rfl, by walk_at "lift"⟩, ⟨_, rfl, by walk_at "lift"⟩⟩ ⟨hb, by omega, by omega⟩ (by simp [Tm.deep]) (by walk_at "kp") (by walk_at "st_ok")
theorem c_index {n : Int} {st c e : Addr} {s : Int} {H : Hp} {Q : VK} {E : XK} (h1 : StOk st c H) (h2 : EnvOk n st c e H) (h3 : 0 < s ∧ s < 65536) (q : ∀ (t : Tm) (v : V) (H' : Hp), t.In H' v → t.ok n → t.deep ≤ 2 → Kp [st, c] H H' → StOk st c H' → Q v H') :
    sp_index n [.ref st, .ref e, .int s] H Q E := ⟨st, c, e, s, rfl, h1, h2, h3.1, h3.2, q⟩
set_option hygiene false in
local macro_rules | `(tactic| walk_at "i_c_index") => `(tactic| intro t v Hn iv ok td ke so)
local macro_rules | `(tactic| walk_at "own") => `(tactic| (refine c_index (c := ?c) ?a ?b ?d ?_; (case a => walk_at "st_ok"); (case b => walk_at "env"); (case d => refine And.intro ?_ ?_ <;> omega); walk_at "i_c_index"))
def sp_read (n : Int) (m : Nat) (P : Tm → Prop) : Sp := fun vs H Q _ => ∃ (st c e : Addr), vs = [.ref st, .ref e] ∧ StOk st c H ∧ EnvOk n st c e H ∧ ∀ (t : Tm) (v : V) (H' : Hp), t.In H' v → t.ok n → t.deep ≤ m → P t → Kp [st, c] H H' → StOk st c H' → Q v H'
theorem ok_read (T : Txt mg) (D : Dn K mg "_law_read" s__law_read p__law_read) (G__law_draw : Cal P w K mg base "_law_draw" 1 p__law_draw sp_draw) (G__law_pick : Cal P w K mg base "_law_pick" 2 p__law_pick (sp_pick K)) (n : Int)
    (G__law_index : Cal P w K mg base "_law_index" 3 p__law_index (sp_index n)) : Cal P w K mg base "_law_read" 4 p__law_read (sp_read n 3 Tm.tgt) := by
  refine D.ok sc__law_read (fun vs H Q E h => ?_) (fun f cdv A outer s H vs Q E hr h => ?_)
  · obtain ⟨_, _, _, rfl, _⟩ := h
    rfl
  obtain ⟨st, c, e, rfl, so, en, q⟩ := h
  refine ⟨_, (pss_cons (ps_if (PW.pt (pw_and (pt_cmpR op_gt (pe_callB call_lenA rfl T.n_len (by decide +kernel) (pa_cons (pe_dget (hu_of hr) (pv 1) pe_str (fun _ _ => rfl)) pa_nil)) pe_int (nomark _)) (pw_and1 (pt_cmpR (op_eqA (hu64 hr)) (pe_cal G__law_draw (hr.mono (by walk_at "lev")) rfl (pa_cons (pv 0) (pa_cons pe_int pa_nil))) pe_int (nomark _))))) (pss_cons (ps_asg (pe_cal G__law_pick (hr.mono (by walk_at "lev")) rfl (pa_cons (pv 0) (pa_cons (pe_dget (hu_of hr) (pv 1) pe_str (fun _ _ => rfl)) pa_nil))) (pg_tup rfl (pgs_cons (pg_name (i := 2) sc__law_read.nd rfl (by first | exact Or.inl rfl | exact Or.inr rfl)) (pgs_cons (pg_name (i := 3) sc__law_read.nd rfl (by first | exact Or.inl rfl | exact Or.inr rfl)) pgs_nil)))) (pss_one (ps_ret (pe_tup (pa_cons pe_str (pa_cons (pv 2) (pa_cons (pv 3) (pa_cons (pe_cal G__law_index (hr.mono (by walk_at "lev")) rfl (pa_cons (pv 0) (pa_cons (pv 1) (pa_cons (pv 3) pa_nil)))) pa_nil)))))))) pss_nil) (pss_one (ps_ret (pe_tup (pa_cons pe_str (pa_cons (pe_cal G__law_pick (hr.mono (by walk_at "lev")) rfl (pa_cons (pv 0) (pa_cons (pe_dget (hu_of hr) (pv 1) pe_str (fun _ _ => rfl)) pa_nil))) pa_nil)))))), ?_⟩
  try dsimp only [cxOf, Cx.nox]
  have en0 := en
  obtain ⟨kvs, ca, ra, sa, cells, reads, spans, h1, h2, h3, h4, h5, h6, h7, h8, h9, h10, l0, l1, l2, l3, l4, m1, m2, m3, m4⟩ := en
  repeat' walk_at "st"
  · obtain ⟨p, fi, sz, rfl, hp, b0, b1, b2, b3⟩ := h10 v (List.mem_of_getElem? ej)
    repeat' walk_at "st"
    exact q (.at fi sz t) _ _ ⟨_, _, rfl, by assumption, by walk_at "tm"⟩ ⟨b0, b1, b2, ok⟩ (by simp only [Tm.deep]; omega) trivial (by walk_at "kp") (by walk_at "st_ok")
  all_goals (obtain ⟨k, hk, rfl⟩ := pk_int (by assumption : (reads.map V.int)[_]? = some _))
  all_goals have hb := h9 k hk
  all_goals exact q (.cell k) _ _ ⟨_, rfl, by assumption⟩ hb (by simp [Tm.deep]) trivial (by walk_at "kp") (by walk_at "st_ok")
theorem c_read {n : Int} {m : Nat} {P : Tm → Prop} {st c e : Addr} {H : Hp} {Q : VK} {E : XK} (h1 : StOk st c H) (h2 : EnvOk n st c e H) (q : ∀ (t : Tm) (v : V) (H' : Hp), t.In H' v → t.ok n → t.deep ≤ m → P t → Kp [st, c] H H' → StOk st c H' → Q v H') :
    sp_read n m P [.ref st, .ref e] H Q E := ⟨st, c, e, rfl, h1, h2, q⟩
set_option hygiene false in
local macro_rules | `(tactic| walk_at "i_c_read") => `(tactic| intro t v Hn iv ok td tg ke so)
local macro_rules | `(tactic| walk_at "own") => `(tactic| (refine c_read (c := ?c) ?a ?b ?_; (case a => walk_at "st_ok"); (case b => walk_at "env"); walk_at "i_c_read"))
theorem ok_target (T : Txt mg) (D : Dn K mg "_law_target" s__law_target p__law_target) (G__law_draw : Cal P w K mg base "_law_draw" 1 p__law_draw sp_draw) (G__law_pick : Cal P w K mg base "_law_pick" 2 p__law_pick (sp_pick K)) (n : Int)
    (G__law_index : Cal P w K mg base "_law_index" 3 p__law_index (sp_index n)) : Cal P w K mg base "_law_target" 4 p__law_target (sp_read n 3 Tm.tgt) := by
  refine D.ok sc__law_target (fun vs H Q E h => ?_) (fun f cdv A outer s H vs Q E hr h => ?_)
  · obtain ⟨_, _, _, rfl, _⟩ := h
    rfl
  obtain ⟨st, c, e, rfl, so, en, q⟩ := h
  refine ⟨_, (pss_cons (ps_if (PW.pt (pw_and (pt_cmpR op_gt (pe_callB call_lenA rfl T.n_len (by decide +kernel) (pa_cons (pe_dget (hu_of hr) (pv 1) pe_str (fun _ _ => rfl)) pa_nil)) pe_int (nomark _)) (pw_and1 (pt_cmpR (op_eqA (hu64 hr)) (pe_cal G__law_draw (hr.mono (by walk_at "lev")) rfl (pa_cons (pv 0) (pa_cons pe_int pa_nil))) pe_int (nomark _))))) (pss_cons (ps_asg (pe_cal G__law_pick (hr.mono (by walk_at "lev")) rfl (pa_cons (pv 0) (pa_cons (pe_dget (hu_of hr) (pv 1) pe_str (fun _ _ => rfl)) pa_nil))) (pg_tup rfl (pgs_cons (pg_name (i := 2) sc__law_target.nd rfl (by first | exact Or.inl rfl | exact Or.inr rfl)) (pgs_cons (pg_name (i := 3) sc__law_target.nd rfl (by first | exact Or.inl rfl | exact Or.inr rfl)) pgs_nil)))) (pss_one (ps_ret (pe_tup (pa_cons pe_str (pa_cons (pv 2) (pa_cons (pv 3) (pa_cons (pe_cal G__law_index (hr.mono (by walk_at "lev")) rfl (pa_cons (pv 0) (pa_cons (pv 1) (pa_cons (pv 3) pa_nil)))) pa_nil)))))))) pss_nil) (pss_one (ps_ret (pe_tup (pa_cons pe_str (pa_cons (pe_cal G__law_pick (hr.mono (by walk_at "lev")) rfl (pa_cons (pv 0) (pa_cons (pe_dget (hu_of hr) (pv 1) pe_str (fun _ _ => rfl)) pa_nil))) pa_nil)))))), ?_⟩
  try dsimp only [cxOf, Cx.nox]
  have en0 := en
  obtain ⟨kvs, ca, ra, sa, cells, reads, spans, h1, h2, h3, h4, h5, h6, h7, h8, h9, h10, l0, l1, l2, l3, l4, m1, m2, m3, m4⟩ := en
  repeat' walk_at "st"
  · obtain ⟨p, fi, sz, rfl, hp, b0, b1, b2, b3⟩ := h10 v (List.mem_of_getElem? ej)
    repeat' walk_at "st"
    exact q (.at fi sz t) _ _ ⟨_, _, rfl, by assumption, by walk_at "tm"⟩ ⟨b0, b1, b2, ok⟩ (by simp only [Tm.deep]; omega) trivial (by walk_at "kp") (by walk_at "st_ok")
  all_goals (obtain ⟨k, hk, rfl⟩ := pk_int (by assumption : (cells.map V.int)[_]? = some _))
  all_goals have hb := h8 k hk
  all_goals exact q (.cell k) _ _ ⟨_, rfl, by assumption⟩ hb (by simp [Tm.deep]) trivial (by walk_at "kp") (by walk_at "st_ok")
def sp_expr (n : Int) (d : Nat) : Sp := fun vs H Q _ => ∃ (st c e : Addr) (k : Nat), vs = [.ref st, .ref e, .int k] ∧ k < d ∧ StOk st c H ∧ EnvOk n st c e H ∧ ∀ (t : Tm) (v : V) (H' : Hp), t.In H' v → t.ok n → t.deep ≤ k + 3 → Kp [st, c] H H' → StOk st c H' → Q v H'
theorem c_expr {n : Int} {d k : Nat} {z : Int} {st c e : Addr} {H : Hp} {Q : VK} {E : XK} (hz : z = k) (hk : k < d) (h1 : StOk st c H) (h2 : EnvOk n st c e H) (q : ∀ (t : Tm) (v : V) (H' : Hp), t.In H' v → t.ok n → t.deep ≤ k + 3 → Kp [st, c] H H' → StOk st c H' → Q v H') :
    sp_expr n d [.ref st, .ref e, .int z] H Q E := ⟨st, c, e, k, by rw [hz], hk, h1, h2, q⟩
theorem ok_expression (T : Txt mg) (D : Dn K mg "_law_expression" s__law_expression p__law_expression) (G__law_draw : Cal P w K mg base "_law_draw" 1 p__law_draw sp_draw) (G__law_pick : Cal P w K mg base "_law_pick" 2 p__law_pick (sp_pick K)) (n : Int)
    (G__law_number : Cal P w K mg base "_law_number" 3 p__law_number sp_number) (G__law_operator : Cal P w K mg base "_law_operator" 3 p__law_operator sp_operator) (G__law_read : Cal P w K mg base "_law_read" 4 p__law_read (sp_read n 3 Tm.tgt)) {d : Nat}
    (G__law_expression : Cal P w K mg base "_law_expression" (d + 4) p__law_expression (sp_expr n d)) : Cal P w K mg base "_law_expression" (d + 5) p__law_expression (sp_expr n (d + 1)) := by
  refine D.ok sc__law_expression (fun vs H Q E h => ?_) (fun f cdv A outer s H vs Q E hr h => ?_)
  · obtain ⟨_, _, _, _, rfl, _⟩ := h
    rfl
  obtain ⟨st, c, e, k, rfl, hk, so, en, q⟩ := h
  refine ⟨_, (pss_cons (ps_set (i := 3) sc__law_expression.nd rfl (by first | exact Or.inl rfl | exact Or.inr rfl) (pe_cal G__law_draw (hr.mono (by walk_at "lev")) rfl (pa_cons (pv 0) (pa_cons pe_int pa_nil)))) (pss_cons (ps_if (PW.pt (pw_or (pt_cmpR (op_eqA (hu64 hr)) (pv 2) pe_int (nomark _)) (pw_or1 (pt_cmpR op_lt (pv 3) pe_int (nomark _))))) (pss_cons (ps_if (PW.pt (pw_and (pt_cmpR op_gt (pe_callB call_lenA rfl T.n_len (by decide +kernel) (pa_cons (pe_dget (hu_of hr) (pv 1) pe_str (fun _ _ => rfl)) pa_nil)) pe_int (nomark _)) (pw_and1 (pt_cmpR op_gt (pe_cal G__law_draw (hr.mono (by walk_at "lev")) rfl (pa_cons (pv 0) (pa_cons pe_int pa_nil))) pe_int (nomark _))))) (pss_one (ps_ret (pe_cal G__law_read (hr.mono (by walk_at "lev")) rfl (pa_cons (pv 0) (pa_cons (pv 1) pa_nil))))) pss_nil) (pss_one (ps_ret (pe_cal G__law_number (hr.mono (by walk_at "lev")) rfl (pa_cons (pv 0) pa_nil))))) pss_nil) (pss_cons (ps_if (pt_cmpR (op_eqA (hu64 hr)) (pv 3) pe_int (nomark _)) (pss_one (ps_ret (pe_tup (pa_cons (pe_cal G__law_pick (hr.mono (by walk_at "lev")) rfl (pa_cons (pv 0) (pa_cons (pe_lst (pa_cons pe_str (pa_cons pe_str pa_nil))) pa_nil))) (pa_cons (pe_cal G__law_expression (hr.mono (by walk_at "lev")) rfl (pa_cons (pv 0) (pa_cons (pv 1) (pa_cons (pe_op op_sub (pv 2) pe_int) pa_nil)))) pa_nil))))) pss_nil) (pss_cons (ps_set (i := 4) sc__law_expression.nd rfl (by first | exact Or.inl rfl | exact Or.inr rfl) (pe_cal G__law_expression (hr.mono (by walk_at "lev")) rfl (pa_cons (pv 0) (pa_cons (pv 1) (pa_cons (pe_op op_sub (pv 2) pe_int) pa_nil))))) (pss_one (ps_ret (pe_tup (pa_cons (pe_cal G__law_operator (hr.mono (by walk_at "lev")) rfl (pa_cons (pv 0) pa_nil)) (pa_cons (pv 4) (pa_cons (pe_cal G__law_expression (hr.mono (by walk_at "lev")) rfl (pa_cons (pv 0) (pa_cons (pv 1) (pa_cons (pe_op op_sub (pv 2) pe_int) pa_nil)))) pa_nil)))))))))), ?_⟩
  try dsimp only [cxOf, Cx.nox]
  have en0 := en
  obtain ⟨kvs, ca, ra, sa, cells, reads, spans, h1, h2, h3, h4, h5, h6, h7, h8, h9, h10, l0, l1, l2, l3, l4, m1, m2, m3, m4⟩ := en
  repeat' walk_at "st"
  · exact q t _ _ iv ok (by omega) (by walk_at "kp") (by walk_at "st_ok")
  · exact q (.num nk) _ _ iv ⟨k0, k1⟩ (by simp [Tm.deep]) (by walk_at "kp") (by walk_at "st_ok")
  · exact q t _ _ iv ok (by omega) (by walk_at "kp") (by walk_at "st_ok")
  · exact q (.num nk) _ _ iv ⟨k0, k1⟩ (by simp [Tm.deep]) (by walk_at "kp") (by walk_at "st_ok")
  · refine c_expr (c := c) (k := k - 1) (by omega) (by omega) (by walk_at "st_ok") (by walk_at "env") ?_
    intro t x Hn iv ok dp ke so
    have hv := List.mem_of_getElem? ej
    simp only [List.mem_cons, List.not_mem_nil, or_false] at hv
    repeat' walk_at "st"
    rcases hv with rfl | rfl
    · exact q (.neg t) _ _ ⟨_, _, rfl, by assumption, by walk_at "tm"⟩ ok (by simp only [Tm.deep]; omega) (by walk_at "kp") (by walk_at "st_ok")
    · exact q (.not t) _ _ ⟨_, _, rfl, by assumption, by walk_at "tm"⟩ ok (by simp only [Tm.deep]; omega) (by walk_at "kp") (by walk_at "st_ok")
  · refine c_expr (c := c) (k := k - 1) (by omega) (by omega) (by walk_at "st_ok") (by walk_at "env") ?_
    intro t1 x1 Hn iv1 ok1 dp1 ke so
    repeat' walk_at "st"
    refine c_expr (c := c) (k := k - 1) (by omega) (by omega) (by walk_at "st_ok") (by walk_at "env") ?_
    intro t2 x2 Hn iv2 ok2 dp2 ke so
    repeat' walk_at "st"
    exact q (.bin o t1 t2) _ _ ⟨_, _, _, rfl, by assumption, by walk_at "tm", by walk_at "tm"⟩ ⟨ok1, ok2⟩ (by simp only [Tm.deep]; omega) (by walk_at "kp") (by walk_at "st_ok")
theorem expression_all (T : Txt mg) (D : Dn K mg "_law_expression" s__law_expression p__law_expression) (G__law_draw : Cal P w K mg base "_law_draw" 1 p__law_draw sp_draw) (G__law_pick : Cal P w K mg base "_law_pick" 2 p__law_pick (sp_pick K)) (n : Int)
    (G__law_number : Cal P w K mg base "_law_number" 3 p__law_number sp_number) (G__law_operator : Cal P w K mg base "_law_operator" 3 p__law_operator sp_operator) (G__law_read : Cal P w K mg base "_law_read" 4 p__law_read (sp_read n 3 Tm.tgt)) :
    ∀ d, Cal P w K mg base "_law_expression" (d + 4) p__law_expression (sp_expr n d)
  | 0 => by
    refine D.ok sc__law_expression (fun vs H Q E h => ?_) (fun f cdv A outer s H vs Q E hr h => ?_)
    · obtain ⟨_, _, _, _, rfl, _⟩ := h
      rfl
    · obtain ⟨_, _, _, _, _, h, _⟩ := h
      exact absurd h (Nat.not_lt_zero _)
  | d + 1 => ok_expression T D G__law_draw G__law_pick n G__law_number G__law_operator G__law_read (expression_all T D G__law_draw G__law_pick n G__law_number G__law_operator G__law_read d)
/-! ### lists of ints as data -/
theorem di_lay : ∀ cs : List Int, PyData.canLayAll0 (cs.map PyData.int) = true
  | [] => by simp [PyData.canLayAll0]
  | c :: r => by simp [PyData.canLayAll0, PyData.canLay0, di_lay r]
theorem di_depth : ∀ cs : List Int, PyData.depthAll (cs.map PyData.int) = 0
  | [] => by simp [PyData.depthAll]
  | c :: r => by simp [PyData.depthAll, PyData.depth, di_depth r]
theorem di_shaped (cs : List Int) : SeqAt.shaped (.list (cs.map PyData.int)) = true := by
  simp [SeqAt.shaped, PyData.canLay0, PyData.depth, di_lay cs, di_depth cs]
theorem di_all {K : PySem.W.Frag} {H : Hp} : ∀ cs : List Int, DpAll K H (cs.map V.int) (cs.map PyData.int)
  | [] => .nil
  | c :: r => .cons (.int c) (di_all r)
theorem di_dp {K : PySem.W.Frag} {H : Hp} {a : Addr} {cs : List Int} (h : SqL K H a (cs.map V.int)) : Dp K H (.ref a) (.list (cs.map PyData.int)) := .lst h (di_all cs)
theorem di_eqv (cs : List Int) : PyData.eqv (.list (cs.map PyData.int)) (.list (cs.map PyData.int)) = true :=
  SeqAt.eqv_refl _ (by simp [PyData.canLay0, di_lay cs])
theorem q_eqInts {K : PySem.W.Frag} {H : Hp} {Q : VK} {a b : Addr} {cs : List Int} (h1 : SqL K H a (cs.map V.int)) (h2 : SqL K H b (cs.map V.int)) (q : Q (.bl true) H) : rEqA K (.ref a) (.ref b) H Q :=
  .inr ⟨_, _, di_dp h1, di_dp h2, di_shaped cs, di_shaped cs, by rw [di_eqv]; exact q⟩
abbrev s__law_binary : Stmt := topS 19
theorem sc__law_binary : FnScope ["sign", "a", "b", "found"] ["sign", "a", "b"] (defScope s__law_binary) := ⟨rfl, rfl, rfl, by decide +kernel, rfl, by decide +kernel, by decide +kernel⟩
abbrev p__law_binary : List Str := ["sign", "a", "b"]
abbrev s__law_value : Stmt := topS 20
theorem sc__law_value : FnScope ["e", "cells", "operands", "index", "operand"] ["e", "cells"] (defScope s__law_value) := ⟨rfl, rfl, rfl, by decide +kernel, rfl, by decide +kernel, by decide +kernel⟩
abbrev p__law_value : List Str := ["e", "cells"]
abbrev s__law_where : Stmt := topS 21
theorem sc__law_where : FnScope ["target", "cells", "index"] ["target", "cells"] (defScope s__law_where) := ⟨rfl, rfl, rfl, by decide +kernel, rfl, by decide +kernel, by decide +kernel⟩
abbrev p__law_where : List Str := ["target", "cells"]
abbrev s__law_deep : Stmt := topS 22
theorem sc__law_deep : FnScope ["state", "env", "deep", "e", "sign"] ["state", "env", "deep"] (defScope s__law_deep) := ⟨rfl, rfl, rfl, by decide +kernel, rfl, by decide +kernel, by decide +kernel⟩
abbrev p__law_deep : List Str := ["state", "env", "deep"]
def sp_bin : Sp := fun vs H Q _ => ∃ (o : Op) (a b : Int), vs = [.str o.str, .int a, .int b] ∧ (0 ≤ a ∧ a < 65536) ∧ (0 ≤ b ∧ b < 65536) ∧ ∀ H', Ex H H' → Q (optV (calc2 o a b)) H'
theorem c_bin {H : Hp} {Q : VK} {E : XK} {o : Op} {a b : Int} (h1 : 0 ≤ a ∧ a < 65536) (h2 : 0 ≤ b ∧ b < 65536) (q : ∀ H', Ex H H' → Q (optV (calc2 o a b)) H') : sp_bin [.str o.str, .int a, .int b] H Q E := ⟨o, a, b, rfl, h1, h2, q⟩
theorem ok_binary (T : Txt mg) (D : Dn K mg "_law_binary" s__law_binary p__law_binary) : Cal P w K mg base "_law_binary" 1 p__law_binary sp_bin := by
  refine D.ok sc__law_binary (fun vs H Q E h => ?_) (fun f cdv A outer s H vs Q E hr h => ?_)
  · obtain ⟨_, _, _, rfl, _⟩ := h
    rfl
  obtain ⟨o, a, b, rfl, ha, hb, q⟩ := h
  refine ⟨_, (pss_cons (ps_if (pt_cmpR op_in_seq (pv 0) (pe_tup (pa_cons pe_str (pa_cons pe_str pa_nil))) (by rfl)) (pss_cons (ps_if (pt_cmpR (op_eqA (hu64 hr)) (pv 2) pe_int (nomark _)) (pss_one (ps_ret pe_non)) pss_nil) (pss_one (ps_ret (pe_ifExp (pt_cmpR (op_eqA (hu64 hr)) (pv 0) pe_str (nomark _)) (pe_op op_fdiv (pv 1) (pv 2)) (pe_op op_mod (pe_callTy call_intA rfl T.n_int (by decide +kernel) (pa_cons (pv 1) pa_nil)) (pv 2)))))) pss_nil) (pss_cons (ps_if (pt_cmpR op_in_seq (pv 0) (pe_tup (pa_cons pe_str (pa_cons pe_str pa_nil))) (by rfl)) (pss_one (ps_ret (pe_ifExp (pt_cmpR (op_eqA (hu64 hr)) (pv 0) pe_str (nomark _)) (pe_callTy call_intA rfl T.n_int (by decide +kernel) (pa_cons (pe_and (pe_cmpR op_gt (pv 1) pe_int (nomark _)) (pe_one (pe_cmpR op_gt (pv 2) pe_int (nomark _)))) pa_nil)) (pe_callTy call_intA rfl T.n_int (by decide +kernel) (pa_cons (pe_or (pe_cmpR op_gt (pv 1) pe_int (nomark _)) (pe_one (pe_cmpR op_gt (pv 2) pe_int (nomark _)))) pa_nil))))) pss_nil) (pss_cons (ps_if (pt_cmpR op_in_seq (pv 0) (pe_tup (pa_cons pe_str (pa_cons pe_str pa_nil))) (by rfl)) (pss_one (ps_ret (pe_ifExp (pt_cmpR (op_eqA (hu64 hr)) (pv 0) pe_str (nomark _)) (pe_callTy call_intA rfl T.n_int (by decide +kernel) (pa_cons (pe_cmpR (op_eqA (hu64 hr)) (pv 1) (pv 2) (nomark _)) pa_nil)) (pe_callTy call_intA rfl T.n_int (by decide +kernel) (pa_cons (pe_cmpR (op_neA (hu64 hr)) (pv 1) (pv 2) (nomark _)) pa_nil))))) pss_nil) (pss_cons (ps_if (pt_cmpR op_in_seq (pv 0) (pe_tup (pa_cons pe_str (pa_cons pe_str pa_nil))) (by rfl)) (pss_one (ps_ret (pe_ifExp (pt_cmpR (op_eqA (hu64 hr)) (pv 0) pe_str (nomark _)) (pe_callTy call_intA rfl T.n_int (by decide +kernel) (pa_cons (pe_cmpR op_lt (pv 1) (pv 2) (nomark _)) pa_nil)) (pe_callTy call_intA rfl T.n_int (by decide +kernel) (pa_cons (pe_not (pe_cmpR op_lt (pv 2) (pv 1) (nomark _))) pa_nil))))) pss_nil) (pss_cons (ps_set (i := 3) sc__law_binary.nd rfl (by first | exact Or.inl rfl | exact Or.inr rfl) (pe_op op_mul (pv 1) (pv 2))) (pss_cons (ps_if (pt_cmpR (op_neA (hu64 hr)) (pv 0) pe_str (nomark _)) (pss_one (ps_set (i := 3) sc__law_binary.nd rfl (by first | exact Or.inl rfl | exact Or.inr rfl) (pe_ifExp (pt_cmpR (op_eqA (hu64 hr)) (pv 0) pe_str (nomark _)) (pe_op op_addA (pv 1) (pv 2)) (pe_op op_sub (pe_op op_addA (pv 1) pe_int) (pv 2))))) pss_nil) (pss_one (ps_ret (pe_op op_mod (pe_callTy call_intA rfl T.n_int (by decide +kernel) (pa_cons (pv 3) pa_nil)) pe_int))))))))), ?_⟩
  try dsimp only [cxOf, Cx.nox]
  cases o <;> (repeat' walk_at "st")
  all_goals refine cast_q ?_ (q _ (by walk_at "ex"))
  all_goals first
    | rfl
    | (simp only [calc2, optV, V.int.injEq]; omega)
    | (simp_all [calc2, optV]; done)
    | exact congrArg (fun z => V.int (b2 z)) (show hold _ a b = true by simp only [hold, Bool.and_eq_true, Bool.or_eq_true, decide_eq_true_eq]; omega)
    | exact congrArg (fun z => V.int (b2 z)) (show hold _ a b = false by simp only [hold, Bool.and_eq_false_iff, Bool.or_eq_false_iff, decide_eq_false_iff_not]; omega)
/-! ### the law's own values -/
def sp_lval (K : PySem.W.Frag) (d : Nat) : Sp := fun vs H Q _ => ∃ (e : Tm) (v : V) (a : Addr) (cs : List Int), vs = [v, .ref a] ∧ e.In H v ∧ e.ok cs.length ∧ e.deep ≤ d ∧ SqL K H a (cs.map V.int) ∧ Words cs ∧ ∀ H', Ex H H' → Q (optV (ev cs e)) H'
theorem c_lval {d : Nat} {e : Tm} {v : V} {a : Addr} {cs : List Int} {H : Hp} {Q : VK} {E : XK} (h1 : e.In H v) (h2 : e.ok cs.length) (h3 : e.deep ≤ d) (h4 : SqL K H a (cs.map V.int)) (h5 : Words cs) (q : ∀ H', Ex H H' → Q (optV (ev cs e)) H') :
    sp_lval K d [v, .ref a] H Q E := ⟨e, v, a, cs, rfl, h1, h2, h3, h4, h5, q⟩
local macro_rules | `(tactic| walk_at "sq") => `(tactic| (refine ex_sql (by assumption) ?_; walk_at "sq"))
theorem ok_lval (T : Txt mg) (D : Dn K mg "_law_value" s__law_value p__law_value) (G__law_binary : Cal P w K mg base "_law_binary" 1 p__law_binary sp_bin) {d : Nat} (G__law_value : Cal P w K mg base "_law_value" (d + 2) p__law_value (sp_lval K d)) :
    Cal P w K mg base "_law_value" (d + 3) p__law_value (sp_lval K (d + 1)) := by
  refine D.ok sc__law_value (fun vs H Q E h => ?_) (fun f cdv A outer s H vs Q E hr h => ?_)
  · obtain ⟨_, _, _, _, rfl, _⟩ := h
    rfl
  obtain ⟨e, v, a, cs, rfl, hin, hok, hd, hs, hw, q⟩ := h
  refine ⟨_, (pss_cons (ps_if (pt_cmpR (op_eqA (hu64 hr)) (pe_ix ix_seq (pv 0) pe_int (fun _ _ => rfl)) pe_str (nomark _)) (pss_one (ps_ret (pe_ix ix_seq (pv 0) pe_int (fun _ _ => rfl)))) pss_nil) (pss_cons (ps_if (pt_cmpR (op_eqA (hu64 hr)) (pe_ix ix_seq (pv 0) pe_int (fun _ _ => rfl)) pe_str (nomark _)) (pss_one (ps_ret (pe_ix ix_seq (pv 1) (pe_ix ix_seq (pv 0) pe_int (fun _ _ => rfl)) (fun _ _ => rfl)))) pss_nil) (pss_cons (ps_if (pt_cmpR (op_eqA (hu64 hr)) (pe_ix ix_seq (pv 0) pe_int (fun _ _ => rfl)) pe_str (nomark _)) (pss_cons (ps_set (i := 3) sc__law_value.nd rfl (by first | exact Or.inl rfl | exact Or.inr rfl) (pe_cal G__law_value (hr.mono (by walk_at "lev")) rfl (pa_cons (pe_ix ix_seq (pv 0) pe_int (fun _ _ => rfl)) (pa_cons (pv 1) pa_nil)))) (pss_one (ps_ret (pe_ifExp (PW.pt (pw_or (pt_cmpR op_isN1 (pv 3) pe_non (nomark _)) (pw_or1 (pt_cmpR op_ge (pv 3) (pe_ix ix_seq (pv 0) pe_int (fun _ _ => rfl)) (nomark _))))) pe_non (pe_ix ix_seq (pv 1) (pe_op op_addA (pe_ix ix_seq (pv 0) pe_int (fun _ _ => rfl)) (pv 3)) (fun _ _ => rfl)))))) pss_nil) (pss_cons (ps_setLc (i := 2) (own := [("operand", 4)]) (tt := tYes) rfl sc__law_value.nd rfl rfl (sw_true rfl rfl rfl (by decide +kernel)) (pi_tup (pe_slice sl_any (pv 0) (po_some pe_int) po_none)) (blkOk_by (N := ["e", "cells", "operands", "index", "operand"]) (sc := defScope s__law_value) (by decide +kernel)) (fun _ _ _ _ _ => (pg_name (i := 4) sc__law_value.nd rfl (by first | exact Or.inl rfl | exact Or.inr rfl))) (fun _ _ _ _ _ => pts_nil) (fun _ _ _ _ _ => (pe_cal G__law_value (hr.mono (by walk_at "lev")) rfl (pa_cons (pv 4) (pa_cons (pv 1) pa_nil))))) (pss_cons (ps_if (pt_cmpR op_in_seq pe_non (pv 2) (by rfl)) (pss_one (ps_ret pe_non)) pss_nil) (pss_cons (ps_if (pt_cmpR (op_eqA (hu64 hr)) (pe_ix ix_seq (pv 0) pe_int (fun _ _ => rfl)) pe_str (nomark _)) (pss_one (ps_ret (pe_callTy call_intA rfl T.n_int (by decide +kernel) (pa_cons (pe_cmpR (op_eqA (hu64 hr)) (pe_ix ix_seq (pv 2) pe_int (fun _ _ => rfl)) pe_int (nomark _)) pa_nil)))) pss_nil) (pss_cons (ps_if (pt_cmpR (op_eqA (hu64 hr)) (pe_ix ix_seq (pv 0) pe_int (fun _ _ => rfl)) pe_str (nomark _)) (pss_one (ps_ret (pe_op op_mod (pe_callTy call_intA rfl T.n_int (by decide +kernel) (pa_cons (pe_op op_sub pe_int (pe_ix ix_seq (pv 2) pe_int (fun _ _ => rfl))) pa_nil)) pe_int))) pss_nil) (pss_one (ps_ret (pe_cal G__law_binary (hr.mono (by walk_at "lev")) rfl (pa_cons (pe_ix ix_seq (pv 0) pe_int (fun _ _ => rfl)) (pa_cons (pe_ix ix_seq (pv 2) pe_int (fun _ _ => rfl)) (pa_cons (pe_ix ix_seq (pv 2) pe_int (fun _ _ => rfl)) pa_nil))))))))))))), ?_⟩
  try dsimp only [cxOf, Cx.nox]
  cases e
  case num n =>
    obtain ⟨p, rfl, hp⟩ := hin
    repeat' walk_at "st"
    exact q _ (Ex.refl _)
  case cell k =>
    obtain ⟨p, rfl, hp⟩ := hin
    obtain ⟨k0, k1⟩ := hok
    repeat' walk_at "st"
    exact q _ (Ex.refl _)
  case «at» f s e =>
    obtain ⟨p, x, rfl, hp, hx⟩ := hin
    obtain ⟨b0, b1, b2, b3⟩ := hok
    repeat' walk_at "st"
    simp only [Tm.deep] at hd
    refine c_lval hx b3 (by omega) hs hw (fun H1 e1 => ?_)
    simp only [ev] at q
    have hw1 : ∀ z, ev cs e = some z → 0 ≤ z ∧ z < 65536 := fun z => ev_w hw b3
    generalize ev cs e = o at q hw1
    cases o
    · simp only [optV] at q ⊢
      repeat' walk_at "st"
      exact q _ (by walk_at "ex")
    · obtain ⟨z0, z1⟩ := hw1 _ rfl
      simp only [optV] at q ⊢
      repeat' walk_at "st"
      · rw [if_pos (by omega)] at q
        exact q _ (by walk_at "ex")
      · rw [if_neg (by omega)] at q
        exact q _ (by walk_at "ex")
  case neg e =>
    obtain ⟨p, x, rfl, hp, hx⟩ := hin
    simp only [Tm.deep] at hd
    have hw1 : ∀ z, ev cs e = some z → 0 ≤ z ∧ z < 65536 := fun z => ev_w hw (e := e) hok
    simp only [ev] at q
    repeat' walk_at "st"
    intro L hL
    refine lc_tup (xs := [x]) (fun i H2 => Ex Hn H2 ∧ H2 L = some (.lst ([optV (ev cs e)].take i))) ⟨Ex.mk hL rfl, upd_same⟩ ?_ ?_ ?_
    · rintro i H2 _ ⟨e2, _⟩
      exact sqt (e2 _ _ hn)
    · rintro i y H2 hy ⟨e2, h2⟩
      cases i with
      | succ i => simp at hy
      | zero =>
        cases hy
        refine ⟨rfl, ?_⟩
        repeat' walk_at "st"
        refine c_lval (e := e) (by walk_at "tm") hok (by omega) (by walk_at "sq") hw (fun H3 e3 => ?_)
        exact ⟨_, e3 _ _ h2, sl1000' (by first | (show (0 : Nat) < 100000; decide) | (show (1 : Nat) < 100000; decide)), fun b u hb => by
          rw [upd_ne (ne_of_none hb hL)]
          exact e3 _ _ (e2 _ _ hb), by rw [upd_same]; rfl⟩
    · rintro H2 ⟨e2, h2⟩
      have h3 : H2 L = some (.lst [optV (ev cs e)]) := h2
      clear h2
      generalize ev cs e = o at q h3 hw1
      cases o
      · simp only [optV] at q h3
        repeat' walk_at "st"
        exact q _ (by walk_at "ex")
      · obtain ⟨z0, z1⟩ := hw1 _ rfl
        simp only [optV] at q h3
        repeat' walk_at "st"
        all_goals refine cast_q ?_ (q _ (by walk_at "ex"))
        all_goals (first | (simp only [V.int.injEq]; omega) | (simp_all [b2]; done))
  case not e =>
    obtain ⟨p, x, rfl, hp, hx⟩ := hin
    simp only [Tm.deep] at hd
    have hw1 : ∀ z, ev cs e = some z → 0 ≤ z ∧ z < 65536 := fun z => ev_w hw (e := e) hok
    simp only [ev] at q
    repeat' walk_at "st"
    intro L hL
    refine lc_tup (xs := [x]) (fun i H2 => Ex Hn H2 ∧ H2 L = some (.lst ([optV (ev cs e)].take i))) ⟨Ex.mk hL rfl, upd_same⟩ ?_ ?_ ?_
    · rintro i H2 _ ⟨e2, _⟩
      exact sqt (e2 _ _ hn)
    · rintro i y H2 hy ⟨e2, h2⟩
      cases i with
      | succ i => simp at hy
      | zero =>
        cases hy
        refine ⟨rfl, ?_⟩
        repeat' walk_at "st"
        refine c_lval (e := e) (by walk_at "tm") hok (by omega) (by walk_at "sq") hw (fun H3 e3 => ?_)
        exact ⟨_, e3 _ _ h2, sl1000' (by first | (show (0 : Nat) < 100000; decide) | (show (1 : Nat) < 100000; decide)), fun b u hb => by
          rw [upd_ne (ne_of_none hb hL)]
          exact e3 _ _ (e2 _ _ hb), by rw [upd_same]; rfl⟩
    · rintro H2 ⟨e2, h2⟩
      have h3 : H2 L = some (.lst [optV (ev cs e)]) := h2
      clear h2
      generalize ev cs e = o at q h3 hw1
      cases o
      · simp only [optV] at q h3
        repeat' walk_at "st"
        exact q _ (by walk_at "ex")
      · obtain ⟨z0, z1⟩ := hw1 _ rfl
        simp only [optV] at q h3
        repeat' walk_at "st"
        all_goals refine cast_q ?_ (q _ (by walk_at "ex"))
        all_goals (first | (simp only [V.int.injEq]; omega) | (simp_all [b2]; done))
  case bin o e g =>
    obtain ⟨p, x, y, rfl, hp, hx, hy⟩ := hin
    simp only [Tm.deep] at hd
    have hw1 : ∀ z, ev cs e = some z → 0 ≤ z ∧ z < 65536 := fun z => ev_w hw (e := e) hok.1
    have hw2 : ∀ z, ev cs g = some z → 0 ≤ z ∧ z < 65536 := fun z => ev_w hw (e := g) hok.2
    simp only [ev] at q
    repeat' walk_at "st"
    intro L hL
    refine lc_tup (xs := [x, y]) (fun i H2 => Ex Hn H2 ∧ H2 L = some (.lst ([optV (ev cs e), optV (ev cs g)].take i))) ⟨Ex.mk hL rfl, upd_same⟩ ?_ ?_ ?_
    · rintro i H2 _ ⟨e2, _⟩
      exact sqt (e2 _ _ hn)
    · rintro i u H2 hu ⟨e2, h2⟩
      match i, hu with
      | 0, hu =>
        cases hu
        refine ⟨rfl, ?_⟩
        repeat' walk_at "st"
        refine c_lval (by walk_at "tm") hok.1 (by omega) (by walk_at "sq") hw (fun H3 e3 => ?_)
        exact ⟨_, e3 _ _ h2, sl1000' (by first | (show (0 : Nat) < 100000; decide) | (show (1 : Nat) < 100000; decide)), fun b u hb => by
          rw [upd_ne (ne_of_none hb hL)]
          exact e3 _ _ (e2 _ _ hb), by rw [upd_same]; rfl⟩
      | 1, hu =>
        cases hu
        refine ⟨rfl, ?_⟩
        repeat' walk_at "st"
        refine c_lval (by walk_at "tm") hok.2 (by omega) (by walk_at "sq") hw (fun H3 e3 => ?_)
        exact ⟨_, e3 _ _ h2, sl1000' (by first | (show (0 : Nat) < 100000; decide) | (show (1 : Nat) < 100000; decide)), fun b u hb => by
          rw [upd_ne (ne_of_none hb hL)]
          exact e3 _ _ (e2 _ _ hb), by rw [upd_same]; rfl⟩
      | i + 2, hu => simp at hu
    · rintro H2 ⟨e2, h2⟩
      have h3 : H2 L = some (.lst [optV (ev cs e), optV (ev cs g)]) := h2
      clear h2
      generalize ev cs e = o1 at q h3 hw1
      generalize ev cs g = o2 at q h3 hw2
      cases o1 <;> cases o2 <;> simp only [optV] at q h3
      all_goals (repeat' walk_at "st")
      any_goals exact q _ (by walk_at "ex")
      refine c_bin (hw1 _ rfl) (hw2 _ rfl) (fun H4 e4 => ?_)
      exact q _ (by walk_at "ex")
theorem lval_all (T : Txt mg) (D : Dn K mg "_law_value" s__law_value p__law_value) (G__law_binary : Cal P w K mg base "_law_binary" 1 p__law_binary sp_bin) : ∀ d, Cal P w K mg base "_law_value" (d + 2) p__law_value (sp_lval K d)
  | 0 => by
    refine D.ok sc__law_value (fun vs H Q E h => ?_) (fun f cdv A outer s H vs Q E hr h => ?_)
    · obtain ⟨_, _, _, _, rfl, _⟩ := h
      rfl
    · obtain ⟨e, _, _, _, _, _, _, h, _⟩ := h
      exact absurd (e.deep_pos) (by omega)
  | d + 1 => ok_lval T D G__law_binary (lval_all T D G__law_binary d)
def sp_where (K : PySem.W.Frag) (d : Nat) : Sp := fun vs H Q _ => ∃ (e : Tm) (v : V) (a : Addr) (cs : List Int), vs = [v, .ref a] ∧ e.In H v ∧ e.ok cs.length ∧ e.tgt ∧ e.deep ≤ d ∧ SqL K H a (cs.map V.int) ∧ Words cs ∧ ∀ H', Ex H H' → Q (optV (wh cs e)) H'
theorem c_where {d : Nat} {e : Tm} {v : V} {a : Addr} {cs : List Int} {H : Hp} {Q : VK} {E : XK} (h1 : e.In H v) (h2 : e.ok cs.length) (h0 : e.tgt) (h3 : e.deep ≤ d) (h4 : SqL K H a (cs.map V.int)) (h5 : Words cs) (q : ∀ H', Ex H H' → Q (optV (wh cs e)) H') :
    sp_where K d [v, .ref a] H Q E := ⟨e, v, a, cs, rfl, h1, h2, h0, h3, h4, h5, q⟩
theorem ok_where (T : Txt mg) (D : Dn K mg "_law_where" s__law_where p__law_where) {d : Nat} (G__law_value : Cal P w K mg base "_law_value" (d + 2) p__law_value (sp_lval K d)) : Cal P w K mg base "_law_where" (d + 3) p__law_where (sp_where K d) := by
  refine D.ok sc__law_where (fun vs H Q E h => ?_) (fun f cdv A outer s H vs Q E hr h => ?_)
  · obtain ⟨_, _, _, _, rfl, _⟩ := h
    rfl
  obtain ⟨e, v, a, cs, rfl, hin, hok, ht, hd, hs, hw, q⟩ := h
  refine ⟨_, (pss_cons (ps_if (pt_cmpR (op_eqA (hu64 hr)) (pe_ix ix_seq (pv 0) pe_int (fun _ _ => rfl)) pe_str (nomark _)) (pss_one (ps_ret (pe_ix ix_seq (pv 0) pe_int (fun _ _ => rfl)))) pss_nil) (pss_cons (ps_set (i := 2) sc__law_where.nd rfl (by first | exact Or.inl rfl | exact Or.inr rfl) (pe_cal G__law_value (hr.mono (by walk_at "lev")) rfl (pa_cons (pe_ix ix_seq (pv 0) pe_int (fun _ _ => rfl)) (pa_cons (pv 1) pa_nil)))) (pss_one (ps_ret (pe_ifExp (PW.pt (pw_or (pt_cmpR op_isN1 (pv 2) pe_non (nomark _)) (pw_or1 (pt_cmpR op_ge (pv 2) (pe_ix ix_seq (pv 0) pe_int (fun _ _ => rfl)) (nomark _))))) pe_non (pe_op op_addA (pe_ix ix_seq (pv 0) pe_int (fun _ _ => rfl)) (pv 2))))))), ?_⟩
  try dsimp only [cxOf, Cx.nox]
  cases e <;> simp only [Tm.tgt] at ht
  case cell k =>
    obtain ⟨p, rfl, hp⟩ := hin
    repeat' walk_at "st"
    exact q _ (Ex.refl _)
  case «at» f s e =>
    obtain ⟨p, x, rfl, hp, hx⟩ := hin
    obtain ⟨b0, b1, b2, b3⟩ := hok
    repeat' walk_at "st"
    simp only [Tm.deep] at hd
    refine c_lval (e := e) hx b3 (by omega) hs hw (fun H1 e1 => ?_)
    simp only [wh] at q
    generalize ev cs e = o at q
    cases o
    · simp only [optV] at q ⊢
      repeat' walk_at "st"
      exact q _ (by walk_at "ex")
    · simp only [optV] at q ⊢
      repeat' walk_at "st"
      · rw [if_pos (by assumption)] at q
        exact q _ (by walk_at "ex")
      · rw [if_neg (by assumption)] at q
        exact q _ (by walk_at "ex")
def sp_deep (n : Int) : Sp := fun vs H Q _ => ∃ (st c e : Addr) (k : Nat), vs = [.ref st, .ref e, .int k] ∧ k < 5 ∧ StOk st c H ∧ EnvOk n st c e H ∧ ∀ (t : Tm) (v : V) (H' : Hp), t.In H' v → t.ok n → t.deep ≤ 8 → Kp [st, c] H H' → StOk st c H' → Q v H'
theorem c_deep {n : Int} {z : Int} {st c e : Addr} {H : Hp} {Q : VK} {E : XK} (hk : 0 ≤ z ∧ z < 5) (h1 : StOk st c H) (h2 : EnvOk n st c e H) (q : ∀ (t : Tm) (v : V) (H' : Hp), t.In H' v → t.ok n → t.deep ≤ 8 → Kp [st, c] H H' → StOk st c H' → Q v H') :
    sp_deep n [.ref st, .ref e, .int z] H Q E := ⟨st, c, e, z.toNat, by rw [Int.toNat_of_nonneg hk.1], by omega, h1, h2, q⟩
theorem ok_deep (T : Txt mg) (D : Dn K mg "_law_deep" s__law_deep p__law_deep) (G__law_draw : Cal P w K mg base "_law_draw" 1 p__law_draw sp_draw) (G__law_pick : Cal P w K mg base "_law_pick" 2 p__law_pick (sp_pick K)) (n : Int)
    (G__law_expression : Cal P w K mg base "_law_expression" 9 p__law_expression (sp_expr n 5)) : Cal P w K mg base "_law_deep" 10 p__law_deep (sp_deep n) := by
  refine D.ok sc__law_deep (fun vs H Q E h => ?_) (fun f cdv A outer s H vs Q E hr h => ?_)
  · obtain ⟨_, _, _, _, rfl, _⟩ := h
    rfl
  obtain ⟨st, c, e, k, rfl, hk, so, en, q⟩ := h
  refine ⟨_, (pss_cons (ps_set (i := 3) sc__law_deep.nd rfl (by first | exact Or.inl rfl | exact Or.inr rfl) (pe_cal G__law_expression (hr.mono (by walk_at "lev")) rfl (pa_cons (pv 0) (pa_cons (pv 1) (pa_cons (pv 2) pa_nil))))) (pss_cons (ps_if (pt_cmpR (op_eqA (hu64 hr)) (pe_cal G__law_draw (hr.mono (by walk_at "lev")) rfl (pa_cons (pv 0) (pa_cons pe_int pa_nil))) pe_int (nomark _)) (pss_cons (ps_set (i := 4) sc__law_deep.nd rfl (by first | exact Or.inl rfl | exact Or.inr rfl) (pe_cal G__law_pick (hr.mono (by walk_at "lev")) rfl (pa_cons (pv 0) (pa_cons (pe_lst (pa_cons pe_str (pa_cons pe_str (pa_cons pe_str (pa_cons pe_str (pa_cons pe_str (pa_cons pe_str (pa_cons pe_str (pa_cons pe_str (pa_cons pe_str (pa_cons pe_str (pa_cons pe_str pa_nil)))))))))))) pa_nil)))) (pss_one (ps_ret (pe_tup (pa_cons (pv 4) (pa_cons (pv 3) (pa_cons (pe_cal G__law_expression (hr.mono (by walk_at "lev")) rfl (pa_cons (pv 0) (pa_cons (pv 1) (pa_cons (pv 2) pa_nil)))) pa_nil))))))) pss_nil) (pss_one (ps_ret (pv 3))))), ?_⟩
  try dsimp only [cxOf, Cx.nox]
  repeat' walk_at "st"
  refine c_expr (c := c) (k := k) rfl hk so en ?_
  intro t1 x1 Hn iv1 ok1 dp1 ke so
  repeat' walk_at "st"
  · refine c_expr (c := c) (k := k) rfl hk (by walk_at "st_ok") (by walk_at "env") ?_
    intro t2 x2 Hn iv2 ok2 dp2 ke so
    repeat' walk_at "st"
    have hv := List.mem_of_getElem? ej
    simp only [List.mem_cons, List.not_mem_nil, or_false] at hv
    have ho : ∃ o : Op, v = .str o.str := by
      rcases hv with rfl | rfl | rfl | rfl | rfl | rfl | rfl | rfl | rfl | rfl | rfl
      · exact ⟨.add, rfl⟩
      · exact ⟨.sub, rfl⟩
      · exact ⟨.mul, rfl⟩
      · exact ⟨.div, rfl⟩
      · exact ⟨.mod, rfl⟩
      · exact ⟨.and, rfl⟩
      · exact ⟨.or, rfl⟩
      · exact ⟨.eq, rfl⟩
      · exact ⟨.ne, rfl⟩
      · exact ⟨.lt, rfl⟩
      · exact ⟨.le, rfl⟩
    obtain ⟨o, rfl⟩ := ho
    exact q (.bin o t1 t2) _ _ ⟨_, _, _, rfl, by assumption, by walk_at "tm", by walk_at "tm"⟩ ⟨ok1, ok2⟩ (by simp only [Tm.deep]; omega) (by walk_at "kp") (by walk_at "st_ok")
  · exact q t1 _ _ (by walk_at "tm") ok1 (by omega) (by walk_at "kp") (by walk_at "st_ok")
abbrev s_law : Stmt := topS 23
theorem sc_law : FnScope ["script", "state", "cells", "env", "kept", "k", "e", "told", "due", "target"] ["script"] (defScope s_law) := ⟨rfl, rfl, rfl, by decide +kernel, rfl, by decide +kernel, by decide +kernel⟩
abbrev p_law : List Str := ["script"]
theorem st_upd {st c p : Addr} {o : HO} {H : Hp} (h : StOk st c H) (hp : p ∉ [st, c]) : StOk st c (upd H p o) := by
  obtain ⟨⟨ns, s, a, b, d⟩, n⟩ := h
  simp only [List.mem_cons, List.not_mem_nil, or_false, not_or] at hp
  exact ⟨⟨ns, s, by rw [upd_ne (Ne.symm hp.1)]; exact a, by rw [upd_ne (Ne.symm hp.2)]; exact b, d⟩, n⟩
theorem kp_updF {M : List Addr} {p : Addr} {o : HO} {H H' : Hp} (k : Kp M H H') (hp : H p = none) : Kp M H (upd H' p o) :=
  ⟨fun a xs h => by rw [upd_ne (ne_of_none h hp)]; exact k.tup a xs h, fun a u n h => by rw [upd_ne (ne_of_none h hp)]; exact k.out a u n h⟩
theorem c_state {a : Addr} {ns : List Int} {H : Hp} {Q : VK} {E : XK} (h1 : SqL K H a (ns.map V.int)) (h2 : ns.length ≤ 63) (q : ∀ st c H', Ex H H' → H st = none → H c = none → StOk st c H' → Q (.ref st) H') : sp_state K [.ref a] H Q E := ⟨a, ns, rfl, h1, h2, q⟩
def sp_law (K : PySem.W.Frag) : Sp := fun vs H Q _ => ∃ (a : Addr) (ns : List Int), vs = [.ref a] ∧ SqL K H a (ns.map V.int) ∧ ns.length ≤ 63 ∧ ∀ H', Q (.bl true) H'
theorem st_out {M : List Addr} {st c : Addr} {H H' : Hp} (k : Kp M H H') (h : StOk st c H) (n1 : st ∉ M) (n2 : c ∉ M) : StOk st c H' := by
  obtain ⟨⟨ns, s, a, b, d⟩, n⟩ := h
  exact ⟨⟨ns, s, k.out _ _ n1 a, k.out _ _ n2 b, d⟩, n⟩
theorem nin3 {st c L p : Addr} (h : p ∉ [st, c]) (h' : L ≠ p) : p ∉ [st, c, L] := by
  simp only [List.mem_cons, List.not_mem_nil, or_false, not_or] at h ⊢
  exact ⟨h.1, h.2, h'.symm⟩
theorem nin1 {p q : Addr} (h : p ≠ q) : p ∉ [q] := by
  simp only [List.mem_cons, List.not_mem_nil, or_false]
  exact h
theorem vneg {k j : Str} {v : V} {r : List (Key × V)} (h : decide (k = j) = false) : valV ((Sum.inr k, v) :: r) (Sum.inr j : Key) = valV r (Sum.inr j) := valV_neg (fun e => of_decide_eq_false h (Sum.inr.inj e))
theorem ixN_i {n : Nat} {k : Int} (h0 : 0 ≤ k) (h1 : k < n) : ixN n k = some k.toNat := by
  unfold ixN
  rw [if_pos h0, if_pos h1]
theorem sub3 {st c L : Addr} : ∀ x, x ∈ [st, c] → x ∈ [st, c, L] := by
  intro x hx
  simp only [List.mem_cons, List.not_mem_nil, or_false] at hx ⊢
  rcases hx with h | h <;> simp [h]
local macro_rules | `(tactic| walk_at "env3") => `(tactic| first
  | assumption
  | (refine env_ex (by assumption) ?_; walk_at "env3")
  | (refine env_kp (Kp.sub (by assumption) sub3) ?_; walk_at "env3"))
theorem words_snoc {cs : List Int} (h : Words cs) {k : Int} (hk : 0 ≤ k ∧ k < 65536) : Words (cs ++ [k]) := by
  intro c hc
  rcases List.mem_append.mp hc with hc | hc
  · exact h c hc
  · rw [List.mem_singleton.mp hc]
    exact hk
theorem words_set {cs : List Int} (h : Words cs) {k : Int} (hk : 0 ≤ k ∧ k < 65536) (i : Nat) : Words (cs.set i k) := by
  intro c hc
  rcases List.mem_or_eq_of_mem_set hc with hc | hc
  · exact h c hc
  · rw [hc]
    exact hk
theorem body_law {fd : FuncData} {fa : Addr} {F : Fun K "law" "law" s_law fa fd} (T : Txt mg) (G__law_state : Cal P w K mg base "_law_state" 1 p__law_state (sp_state K)) (G__law_draw : Cal P w K mg base "_law_draw" 1 p__law_draw sp_draw) (G__law_pick : Cal P w K mg base "_law_pick" 2 p__law_pick (sp_pick K))
    (G__law_deep : Cal P w K mg base "_law_deep" 10 p__law_deep (sp_deep 8)) (G_value : Cal P w K mg base "value" 17 p_value (sp_value K 8)) (G_place : Cal P w K mg base "place" 6 p_place (sp_place K 3)) (G__law_value : Cal P w K mg base "_law_value" 10 p__law_value (sp_lval K 8))
    (G__law_where : Cal P w K mg base "_law_where" 6 p__law_where (sp_where K 3)) (G__law_target : Cal P w K mg base "_law_target" 4 p__law_target (sp_read 8 3 Tm.tgt)) : FnOk P w K mg base CX0 18 fa fd ["script"] (sp_law K) := by
  refine F.ok sc_law (fun vs H Q E h => ?_) (fun cdv A outer s H vs Q E hr h => ?_)
  · obtain ⟨_, _, rfl, _⟩ := h
    rfl
  obtain ⟨a, ns, rfl, hs, hl, q⟩ := h
  refine ⟨_, (pss_cons (ps_set (i := 1) sc_law.nd rfl (by first | exact Or.inl rfl | exact Or.inr rfl) (pe_cal G__law_state (hr.mono (by walk_at "lev")) rfl (pa_cons (pv 0) pa_nil))) (pss_cons (ps_setLc (i := 2) (own := [("k", 5)]) (tt := tYes) rfl sc_law.nd rfl rfl (sw_true rfl rfl rfl (by decide +kernel)) (pi_range1 rfl T.n_range (pa_cons pe_int pa_nil)) (blkOk_by (N := ["script", "state", "cells", "env", "kept", "k", "e", "told", "due", "target"]) (sc := defScope s_law) (by decide +kernel)) (fun _ _ _ _ _ => (pg_name (i := 5) sc_law.nd rfl (by first | exact Or.inl rfl | exact Or.inr rfl))) (fun _ _ _ _ _ => pts_nil) (fun _ _ _ _ _ => (pe_cal G__law_pick (hr.mono (by walk_at "lev")) rfl (pa_cons (pv 1) (pa_cons (pe_lst (pa_cons pe_int (pa_cons pe_int (pa_cons pe_int (pa_cons pe_int (pa_cons (pe_cal G__law_draw (hr.mono (by walk_at "lev")) rfl (pa_cons (pv 1) (pa_cons pe_int pa_nil))) (pa_cons (pe_cal G__law_draw (hr.mono (by walk_at "lev")) rfl (pa_cons (pv 1) (pa_cons pe_int pa_nil))) pa_nil))))))) pa_nil))))) (pss_cons (ps_set (i := 3) sc_law.nd rfl (by first | exact Or.inl rfl | exact Or.inr rfl) (pe_disp (pps_cons pe_str (pe_lst (pa_cons pe_int (pa_cons pe_int (pa_cons pe_int pa_nil)))) (pps_cons pe_str (pe_lst (pa_cons pe_int (pa_cons pe_int (pa_cons pe_int pa_nil)))) (pps_cons pe_str (pe_lst (pa_cons (pe_tup (pa_cons pe_int (pa_cons (pe_op op_addA pe_int (pe_cal G__law_draw (hr.mono (by walk_at "lev")) rfl (pa_cons (pv 1) (pa_cons pe_int pa_nil)))) pa_nil))) pa_nil)) pps_nil))) rfl rfl (by simp) (by decide))) (pss_cons (ps_set (i := 4) sc_law.nd rfl (by first | exact Or.inl rfl | exact Or.inr rfl) (pe_callTy call_listA rfl T.n_list (by decide +kernel) (pa_cons (pv 2) pa_nil))) (pss_cons (ps_for PassesOwn.never rfl (pi_range1 rfl T.n_range (pa_cons pe_int pa_nil)) (pg_name (i := 5) sc_law.nd rfl (by first | exact Or.inl rfl | exact Or.inr rfl)) (pss_cons (ps_set (i := 6) sc_law.nd rfl (by first | exact Or.inl rfl | exact Or.inr rfl) (pe_cal G__law_deep (hr.mono (by walk_at "lev")) rfl (pa_cons (pv 1) (pa_cons (pv 3) (pa_cons (pe_cal G__law_draw (hr.mono (by walk_at "lev")) rfl (pa_cons (pv 1) (pa_cons pe_int pa_nil))) pa_nil))))) (pss_cons (ps_set (i := 7) sc_law.nd rfl (by first | exact Or.inl rfl | exact Or.inr rfl) (pe_cal G_value (hr.mono (by walk_at "lev")) rfl (pa_cons (pv 6) (pa_cons (pv 2) pa_nil)))) (pss_cons (ps_set (i := 8) sc_law.nd rfl (by first | exact Or.inl rfl | exact Or.inr rfl) (pe_cal G__law_value (hr.mono (by walk_at "lev")) rfl (pa_cons (pv 6) (pa_cons (pv 4) pa_nil)))) (pss_cons (ps_if (PW.pt (pw_or (pt_val (pe_callB call_isi rfl T.n_isinstance (by decide +kernel) (pa_cons (pv 7) (pa_cons (pe_ty (n := "bool") rfl T.n_bool (by decide +kernel)) pa_nil)))) (pw_or (pt_cmpR (op_neA (hu64 hr)) (pv 7) (pv 8) (nomark _)) (pw_or1 (pt_cmpR (op_neA (hu64 hr)) (pe_cmpR op_isN1 (pv 7) pe_non (nomark _)) (pe_cmpR op_isN1 (pv 8) pe_non (nomark _)) (nomark _)))))) (pss_one (ps_ret pe_bl)) pss_nil) (pss_cons (ps_set (i := 9) sc_law.nd rfl (by first | exact Or.inl rfl | exact Or.inr rfl) (pe_cal G__law_target (hr.mono (by walk_at "lev")) rfl (pa_cons (pv 1) (pa_cons (pv 3) pa_nil)))) (pss_cons (ps_set (i := 7) sc_law.nd rfl (by first | exact Or.inl rfl | exact Or.inr rfl) (pe_cal G_place (hr.mono (by walk_at "lev")) rfl (pa_cons (pv 9) (pa_cons (pv 2) pa_nil)))) (pss_cons (ps_if (PW.pt (pw_or (pt_val (pe_callB call_isi rfl T.n_isinstance (by decide +kernel) (pa_cons (pv 7) (pa_cons (pe_ty (n := "bool") rfl T.n_bool (by decide +kernel)) pa_nil)))) (pw_or1 (pt_cmpR (op_neA (hu64 hr)) (pv 7) (pe_cal G__law_where (hr.mono (by walk_at "lev")) rfl (pa_cons (pv 9) (pa_cons (pv 4) pa_nil))) (nomark _))))) (pss_one (ps_ret pe_bl)) pss_nil) (pss_one (ps_if (pt_cmpR op_notN1 (pv 7) pe_non (nomark _)) (pss_cons (ps_asg (pe_cal G__law_draw (hr.mono (by walk_at "lev")) rfl (pa_cons (pv 1) (pa_cons pe_int pa_nil))) (pg_sub (pv 2) (pv 7) set_list)) (pss_one (ps_set (i := 4) sc_law.nd rfl (by first | exact Or.inl rfl | exact Or.inr rfl) (pe_callTy call_listA rfl T.n_list (by decide +kernel) (pa_cons (pv 2) pa_nil))))) pss_nil)))))))))) (pss_one (ps_ret (pe_cmpR (op_eqA (hu64 hr)) (pv 2) (pv 4) (nomark _))))))))), ?_⟩
  try dsimp only [cxOf, Cx.nox]
  repeat' walk_at "st"
  refine c_state hs hl ?_
  intro st c H1 e1 hst hc so
  repeat' walk_at "st"
  intro L hL
  have nL : L ∉ [st, c] := st_fresh so hL
  refine lc_range (lo := 0) (n := 8) (fun i H2 => ∃ cs : List Int, cs.length = i ∧ Words cs ∧ Kp [st, c] H1 H2 ∧ StOk st c H2 ∧ H2 L = some (.lst (cs.map V.int))) ?_ ?_ ?_
  · exact ⟨[], rfl, (fun _ h => absurd h (List.not_mem_nil)), kp_updF (Kp.refl _) hL, st_upd so nL, upd_same⟩
  · rintro i H2 hi ⟨cs, rfl, hw, k2, so2, h2⟩
    refine ⟨rfl, ?_⟩
    repeat' walk_at "st"
    have hv := List.mem_of_getElem? ej
    simp only [List.mem_cons, List.not_mem_nil, or_false] at hv
    have hk : ∃ k, v = .int k ∧ 0 ≤ k ∧ k < 65536 := by
      rcases hv with rfl | rfl | rfl | rfl | rfl | rfl <;> exact ⟨_, rfl, by omega, by omega⟩
    obtain ⟨k, rfl, k01⟩ := hk
    refine ⟨_, by walk_at "lift", sl1000' (by rw [List.length_map]; omega), cs ++ [k], by rw [List.length_append]; rfl, words_snoc hw k01, kp_updF (k2.trans (by walk_at "kp")) hL, st_upd (by walk_at "st_ok") nL, ?_⟩
    rw [upd_same, List.map_append]
    rfl
  · rintro H2 ⟨cs, l8, hw, k2, so2, h2⟩
    repeat' walk_at "st"
    rename_i so0 HA kA pc HB hpc kB hnc pr HC hpr kC hnr HD kD pt HE hpt kE hnt
    have sA := st_ex kA so2
    have sB := st_ex kB sA
    have sC := st_ex kC sB
    have lA := kA _ _ h2
    have lB := kB _ _ lA
    have lC := kC _ _ lB
    have lD := kD.out _ _ nL lC
    have lE := kE _ _ lD
    have nd := st_fresh so2 hdp
    have dB := kB _ _ hdn
    have dC := kC _ _ dB
    have dD := kD.out _ _ nd dC
    have dE := kE _ _ dD
    have nLd : L ∉ [dp] := nin1 (ne_of_none h2 hdp)
    have npc : pc ∉ [st, c] := st_fresh sA hpc
    have npr : pr ∉ [st, c] := st_fresh sB hpr
    have nps : p ∉ [st, c] := st_fresh (by walk_at "st_ok") hp
    have npcd : pc ∉ [dp] := nin1 (ne_of_none hdn hpc).symm
    have nprd : pr ∉ [dp] := nin1 (ne_of_none dB hpr).symm
    have npsd : p ∉ [dp] := nin1 (ne_of_none dE hp).symm
    have ncr : pc ≠ pr := ne_of_none hnc hpr
    simp only [List.mem_cons, List.not_mem_nil, or_false, not_or] at nd
    refine q_disp [(Sum.inr "cells", .ref pc), (Sum.inr "reads", .ref pr), (Sum.inr "spans", .ref p)] (by walk_at "lift") rfl (by show ([Sum.inr "cells", Sum.inr "reads", Sum.inr "spans"] : List Key).Nodup; decide +kernel) (by show 3 ≤ 15; decide) ?_
    intro H5 k5 h5
    have so5 : StOk st c H5 := st_out k5 (by walk_at "st_ok") (nin1 (Ne.symm nd.1)) (nin1 (Ne.symm nd.2))
    have en : EnvM 8 [st, c, L] dp H5 := by
      refine ⟨_, pc, pr, p, [0, 1, 2], [0, 1, 2], [.ref pt], h5, ?_, ?_, ?_, by walk_at "lift", by walk_at "lift", by walk_at "lift", ?_, ?_, ?_, by decide, by decide, by decide, by decide, (by show 1 < 1000; decide), nin3 (st_fresh so2 hdp) (ne_of_none h2 hdp), nin3 npc (ne_of_none lA hpc), nin3 npr (ne_of_none lB hpr), nin3 nps (ne_of_none lE hp)⟩
      · exact valV_pos rfl
      · rw [vneg (by decide +kernel)]
        exact valV_pos rfl
      · rw [vneg (by decide +kernel), vneg (by decide +kernel)]
        exact valV_pos rfl
      · intro k hk
        simp only [List.mem_cons, List.not_mem_nil, or_false] at hk
        omega
      · intro k hk
        simp only [List.mem_cons, List.not_mem_nil, or_false] at hk
        omega
      · intro v hv
        rw [List.mem_singleton.mp hv]
        exact ⟨pt, 3, 1 + dn, rfl, by walk_at "lift", by omega, by omega, by omega, by omega⟩
    have l5 : H5 L = some (.lst (cs.map V.int)) := k5.out _ _ nLd (by walk_at "lift")
    clear hdp hdn h5 k5 hnc hnr hnt hn hp ke kE kD kC kB kA dB dC dD dE lA lB lC lD lE sA sB sC hpc hpr hpt ncr npcd nprd npsd
    repeat' walk_at "st"
    have mp : p ∉ [st, c] := st_fresh so5 hp
    have so6 := st_ex ke so5
    have en6 := env_ex ke en
    have l6 := ke _ _ l5
    refine w_rng (lo := 0) (n := 12) (fun i σ H' => ∃ (cs : List Int) (ka : Addr) (y5 y6 y7 y8 y9 : Option V), σ = [some (.ref a), some (.ref st), some (.ref L), some (.ref dp), some (.ref ka), y5, y6, y7, y8, y9] ∧ StOk st c H' ∧ EnvM 8 [st, c, L] dp H' ∧
      H' L = some (.lst (cs.map V.int)) ∧ H' ka = some (.lst (cs.map V.int)) ∧ ka ∉ [st, c] ∧ cs.length = 8 ∧ Words cs) ⟨cs, p, none, none, none, none, none, rfl, so6, en6, l6, hn, mp, l8, hw⟩ ?_ ?_
    · clear hw l8 l5 l6 hn hp ke so5 so6 en en6 mp k2 so2 h2 npc npr nps
      rintro i σ H' _ ⟨cs, ka, y5, y6, y7, y8, y9, rfl, so, en, hL', hk', nk, l8, hw⟩
      have en2 : EnvOk 8 st c dp H' := env_sub sub3 en
      have l8' : ((cs.length : Nat) : Int) = 8 := by omega
      repeat' walk_at "st"
      refine c_deep (c := c) (by omega) (by walk_at "st_ok") (by walk_at "env") ?_
      intro t v Hn iv ok td ke so
      repeat' walk_at "st"
      have okc : t.ok cs.length := by rw [l8']; exact ok
      refine c_value (e := t) (cs := cs) iv okc td (by walk_at "sq") hw ?_
      repeat' walk_at "st"
      refine c_lval (e := t) (cs := cs) iv okc td (by walk_at "sq") hw (fun Ho ko => ?_)
      generalize ev cs t = o
      have so' := st_ex ko so
      cases o <;> simp only [optV] <;> (repeat' walk_at "st")
      all_goals have okc : t.ok cs.length := by rw [l8']; exact ok
      all_goals refine c_place (e := t) (cs := cs) iv okc tg td (by walk_at "sq") hw ?_
      all_goals have hk := fun z => wh_ok hw (e := t) (k := z) okc
      all_goals rcases hwh : wh cs t with _ | z
      all_goals simp only [optV]
      all_goals (repeat' walk_at "st")
      all_goals refine c_where (e := t) (cs := cs) iv okc tg td (by walk_at "sq") hw (fun H8 k8 => ?_)
      all_goals rw [hwh]
      all_goals have so8 := st_ex k8 so
      all_goals simp only [optV]
      all_goals (repeat' walk_at "st")
      case refine_2.refine_3.refine_1.none.none => exact ⟨cs, ka, _, _, _, _, _, rfl, so8, by walk_at "env3", by walk_at "lift", by walk_at "lift", nk, l8, hw⟩
      case refine_2.refine_3.refine_1.some.none => exact ⟨cs, ka, _, _, _, _, _, rfl, so8, by walk_at "env3", by walk_at "lift", by walk_at "lift", nk, l8, hw⟩
      all_goals obtain ⟨z0, z1⟩ := hk _ hwh
      all_goals have hL8 : Hn L = some (.lst (cs.map V.int)) := by walk_at "lift"
      all_goals refine q_setL hL8 (ixN_i z0 (by rw [List.length_map]; exact z1)) ?_
      all_goals generalize hq : upd Hn L _ = H9
      all_goals have k9 : Kp [st, c, L] Hn H9 := Kp.set (by simp) (fun xs e => by rw [hL8] at e; cases e) hq
      all_goals have so9 : StOk st c H9 := by rw [← hq]; exact st_upd so nL
      all_goals have e9 : EnvM 8 [st, c, L] dp H9 := env_kp k9 (by walk_at "env3")
      all_goals rw [← List.map_set] at hq
      all_goals have hL9 := at_new hq
      all_goals (repeat' walk_at "st")
      all_goals exact ⟨_, _, _, _, _, _, _, rfl, st_ex ke so9, env_ex ke e9, ke _ _ hL9, hn, st_fresh so9 hp, by rw [List.length_set]; exact l8, words_set hw ⟨n0, n1⟩ _⟩
    · rintro σ H' ⟨cs, ka, y5, y6, y7, y8, y9, rfl, so, en, hL', hk', nk, l8, hw⟩
      repeat' walk_at "st"
      exact q_eqInts (sql hL') (sql hk') (q _)
theorem build_law {fd : FuncData} {fa : Addr} (F : Fun K "law" "law" s_law fa fd) (T : Txt mg) (D_value : Dn K mg "value" s_value p_value) (D_place : Dn K mg "place" s_place p_place) (D_operate : Dn K mg "operate" s_operate p_operate) (D_calculate : Dn K mg "calculate" s_calculate p_calculate) (D_divide : Dn K mg "divide" s_divide p_divide) (D_holds : Dn K mg "holds" s_holds p_holds) (D_bit : Dn K mg "bit" s_bit p_bit) (D__law_state : Dn K mg "_law_state" s__law_state p__law_state) (D__law_draw : Dn K mg "_law_draw" s__law_draw p__law_draw) (D__law_pick : Dn K mg "_law_pick" s__law_pick p__law_pick) (D__law_number : Dn K mg "_law_number" s__law_number p__law_number) (D__law_operator : Dn K mg "_law_operator" s__law_operator p__law_operator) (D__law_index : Dn K mg "_law_index" s__law_index p__law_index) (D__law_read : Dn K mg "_law_read" s__law_read p__law_read) (D__law_expression : Dn K mg "_law_expression" s__law_expression p__law_expression) (D__law_target : Dn K mg "_law_target" s__law_target p__law_target) (D__law_binary : Dn K mg "_law_binary" s__law_binary p__law_binary) (D__law_value : Dn K mg "_law_value" s__law_value p__law_value) (D__law_where : Dn K mg "_law_where" s__law_where p__law_where) (D__law_deep : Dn K mg "_law_deep" s__law_deep p__law_deep) : FnOk P w K mg base CX0 18 fa fd ["script"] (sp_law K) := by
  have b := ok_bit (P := P) (w := w) (base := base) D_bit
  have ho := ok_holds (P := P) (w := w) (base := base) D_holds
  have di := ok_divide (P := P) (w := w) (base := base) D_divide
  have ca := ok_calculate T D_calculate b ho di
  have op := ok_operate T D_operate b
  have va := value_all T D_value D_place op ca
  have dr := ok_draw (P := P) (w := w) (base := base) T D__law_draw
  have pi := ok_pick T D__law_pick dr
  have nu := ok_number T D__law_number dr pi
  have opr := ok_operator T D__law_operator dr pi
  have ix := ok_index T D__law_index dr pi 8
  have rd := ok_read T D__law_read dr pi 8 ix
  have ta := ok_target T D__law_target dr pi 8 ix
  have ex := expression_all T D__law_expression dr pi 8 nu opr rd
  have bi := ok_binary (P := P) (w := w) (base := base) T D__law_binary
  have lv := lval_all T D__law_value bi
  have wr := ok_where T D__law_where (lv 3)
  have de := ok_deep T D__law_deep dr pi 8 (ex 5)
  exact body_law (F := F) T (ok_state T D__law_state) dr pi de (va 8).1 (va 2).2 (lv 8) wr ta
theorem dn_mk {h : Heap} {x : Str} {st : Stmt} {ps : List Str} {f : Addr} {oc : Value} {od an : Option Addr} {osl : Array (Option Value)} {kV doc pm cdv ct : Value} (X : K.In h) (G : h.Ns mainGlobals mg) (a : PySem.W.nsIn K mainGlobals x = some (some (.ref f)))
    (l : K.lookup f = some ⟨oc, od, .func (PySem.W.fnOf x x (defArgs st) (defBody st) (defScope st) .none kV doc pm an cdv ct), osl⟩) (c : PySem.W.codeIn K cdv x = true) (k : PySem.W.keepIn K (.ref f) = true)
    (hb : ∀ (kV doc pm : Value) (an : Option Addr) (cdv ct : Value) (us : List Value), us.length = ps.length → bindArgs (PySem.W.fnOf x x (defArgs st) (defBody st) (defScope st) .none kV doc pm an cdv ct) ⟨us, []⟩ = pure (ps.zip us)) : Dn K mg x st ps :=
  ⟨f, _, fun_mk l c k, PySem.W.mg_of X G a, (fun_mk l c k).binds hb⟩
theorem all_mk {l : PySem.W.OpenLaw} {w : World} {K : PySem.W.Frag} {h : Heap} {mg : Str → Option Value} {fa : Addr} (X : K.In h) (G : h.Ns mainGlobals mg) (hfa : mg "law" = some (.ref fa))
    {f0 : Addr} {od0 an0 : Option Addr} {sl0 : Array (Option Value)} {oc0 kV0 dc0 pm0 cd0 ct0 : Value}
    {f1 : Addr} {od1 an1 : Option Addr} {sl1 : Array (Option Value)} {oc1 kV1 dc1 pm1 cd1 ct1 : Value}
    {f2 : Addr} {od2 an2 : Option Addr} {sl2 : Array (Option Value)} {oc2 kV2 dc2 pm2 cd2 ct2 : Value}
    {f3 : Addr} {od3 an3 : Option Addr} {sl3 : Array (Option Value)} {oc3 kV3 dc3 pm3 cd3 ct3 : Value}
    {f4 : Addr} {od4 an4 : Option Addr} {sl4 : Array (Option Value)} {oc4 kV4 dc4 pm4 cd4 ct4 : Value}
    {f5 : Addr} {od5 an5 : Option Addr} {sl5 : Array (Option Value)} {oc5 kV5 dc5 pm5 cd5 ct5 : Value}
    {f6 : Addr} {od6 an6 : Option Addr} {sl6 : Array (Option Value)} {oc6 kV6 dc6 pm6 cd6 ct6 : Value}
    {f7 : Addr} {od7 an7 : Option Addr} {sl7 : Array (Option Value)} {oc7 kV7 dc7 pm7 cd7 ct7 : Value}
    {f8 : Addr} {od8 an8 : Option Addr} {sl8 : Array (Option Value)} {oc8 kV8 dc8 pm8 cd8 ct8 : Value}
    {f9 : Addr} {od9 an9 : Option Addr} {sl9 : Array (Option Value)} {oc9 kV9 dc9 pm9 cd9 ct9 : Value}
    {f10 : Addr} {od10 an10 : Option Addr} {sl10 : Array (Option Value)} {oc10 kV10 dc10 pm10 cd10 ct10 : Value}
    {f11 : Addr} {od11 an11 : Option Addr} {sl11 : Array (Option Value)} {oc11 kV11 dc11 pm11 cd11 ct11 : Value}
    {f12 : Addr} {od12 an12 : Option Addr} {sl12 : Array (Option Value)} {oc12 kV12 dc12 pm12 cd12 ct12 : Value}
    {f13 : Addr} {od13 an13 : Option Addr} {sl13 : Array (Option Value)} {oc13 kV13 dc13 pm13 cd13 ct13 : Value}
    {f14 : Addr} {od14 an14 : Option Addr} {sl14 : Array (Option Value)} {oc14 kV14 dc14 pm14 cd14 ct14 : Value}
    {f15 : Addr} {od15 an15 : Option Addr} {sl15 : Array (Option Value)} {oc15 kV15 dc15 pm15 cd15 ct15 : Value}
    {f16 : Addr} {od16 an16 : Option Addr} {sl16 : Array (Option Value)} {oc16 kV16 dc16 pm16 cd16 ct16 : Value}
    {f17 : Addr} {od17 an17 : Option Addr} {sl17 : Array (Option Value)} {oc17 kV17 dc17 pm17 cd17 ct17 : Value}
    {f18 : Addr} {od18 an18 : Option Addr} {sl18 : Array (Option Value)} {oc18 kV18 dc18 pm18 cd18 ct18 : Value}
    {f19 : Addr} {od19 an19 : Option Addr} {sl19 : Array (Option Value)} {oc19 kV19 dc19 pm19 cd19 ct19 : Value}
    {f20 : Addr} {od20 an20 : Option Addr} {sl20 : Array (Option Value)} {oc20 kV20 dc20 pm20 cd20 ct20 : Value}
    (a0 : PySem.W.nsIn K mainGlobals "value" = some (some (.ref f0))) (l0 : K.lookup f0 = some ⟨oc0, od0, .func (PySem.W.fnOf "value" "value" (defArgs s_value) (defBody s_value) (defScope s_value) .none kV0 dc0 pm0 an0 cd0 ct0), sl0⟩) (c0 : PySem.W.codeIn K cd0 "value" = true) (k0 : PySem.W.keepIn K (.ref f0) = true)
    (a1 : PySem.W.nsIn K mainGlobals "place" = some (some (.ref f1))) (l1 : K.lookup f1 = some ⟨oc1, od1, .func (PySem.W.fnOf "place" "place" (defArgs s_place) (defBody s_place) (defScope s_place) .none kV1 dc1 pm1 an1 cd1 ct1), sl1⟩) (c1 : PySem.W.codeIn K cd1 "place" = true) (k1 : PySem.W.keepIn K (.ref f1) = true)
    (a2 : PySem.W.nsIn K mainGlobals "operate" = some (some (.ref f2))) (l2 : K.lookup f2 = some ⟨oc2, od2, .func (PySem.W.fnOf "operate" "operate" (defArgs s_operate) (defBody s_operate) (defScope s_operate) .none kV2 dc2 pm2 an2 cd2 ct2), sl2⟩) (c2 : PySem.W.codeIn K cd2 "operate" = true) (k2 : PySem.W.keepIn K (.ref f2) = true)
    (a3 : PySem.W.nsIn K mainGlobals "calculate" = some (some (.ref f3))) (l3 : K.lookup f3 = some ⟨oc3, od3, .func (PySem.W.fnOf "calculate" "calculate" (defArgs s_calculate) (defBody s_calculate) (defScope s_calculate) .none kV3 dc3 pm3 an3 cd3 ct3), sl3⟩) (c3 : PySem.W.codeIn K cd3 "calculate" = true) (k3 : PySem.W.keepIn K (.ref f3) = true)
    (a4 : PySem.W.nsIn K mainGlobals "divide" = some (some (.ref f4))) (l4 : K.lookup f4 = some ⟨oc4, od4, .func (PySem.W.fnOf "divide" "divide" (defArgs s_divide) (defBody s_divide) (defScope s_divide) .none kV4 dc4 pm4 an4 cd4 ct4), sl4⟩) (c4 : PySem.W.codeIn K cd4 "divide" = true) (k4 : PySem.W.keepIn K (.ref f4) = true)
    (a5 : PySem.W.nsIn K mainGlobals "holds" = some (some (.ref f5))) (l5 : K.lookup f5 = some ⟨oc5, od5, .func (PySem.W.fnOf "holds" "holds" (defArgs s_holds) (defBody s_holds) (defScope s_holds) .none kV5 dc5 pm5 an5 cd5 ct5), sl5⟩) (c5 : PySem.W.codeIn K cd5 "holds" = true) (k5 : PySem.W.keepIn K (.ref f5) = true)
    (a6 : PySem.W.nsIn K mainGlobals "bit" = some (some (.ref f6))) (l6 : K.lookup f6 = some ⟨oc6, od6, .func (PySem.W.fnOf "bit" "bit" (defArgs s_bit) (defBody s_bit) (defScope s_bit) .none kV6 dc6 pm6 an6 cd6 ct6), sl6⟩) (c6 : PySem.W.codeIn K cd6 "bit" = true) (k6 : PySem.W.keepIn K (.ref f6) = true)
    (a7 : PySem.W.nsIn K mainGlobals "_law_state" = some (some (.ref f7))) (l7 : K.lookup f7 = some ⟨oc7, od7, .func (PySem.W.fnOf "_law_state" "_law_state" (defArgs s__law_state) (defBody s__law_state) (defScope s__law_state) .none kV7 dc7 pm7 an7 cd7 ct7), sl7⟩) (c7 : PySem.W.codeIn K cd7 "_law_state" = true) (k7 : PySem.W.keepIn K (.ref f7) = true)
    (a8 : PySem.W.nsIn K mainGlobals "_law_draw" = some (some (.ref f8))) (l8 : K.lookup f8 = some ⟨oc8, od8, .func (PySem.W.fnOf "_law_draw" "_law_draw" (defArgs s__law_draw) (defBody s__law_draw) (defScope s__law_draw) .none kV8 dc8 pm8 an8 cd8 ct8), sl8⟩) (c8 : PySem.W.codeIn K cd8 "_law_draw" = true) (k8 : PySem.W.keepIn K (.ref f8) = true)
    (a9 : PySem.W.nsIn K mainGlobals "_law_pick" = some (some (.ref f9))) (l9 : K.lookup f9 = some ⟨oc9, od9, .func (PySem.W.fnOf "_law_pick" "_law_pick" (defArgs s__law_pick) (defBody s__law_pick) (defScope s__law_pick) .none kV9 dc9 pm9 an9 cd9 ct9), sl9⟩) (c9 : PySem.W.codeIn K cd9 "_law_pick" = true) (k9 : PySem.W.keepIn K (.ref f9) = true)
    (a10 : PySem.W.nsIn K mainGlobals "_law_number" = some (some (.ref f10))) (l10 : K.lookup f10 = some ⟨oc10, od10, .func (PySem.W.fnOf "_law_number" "_law_number" (defArgs s__law_number) (defBody s__law_number) (defScope s__law_number) .none kV10 dc10 pm10 an10 cd10 ct10), sl10⟩) (c10 : PySem.W.codeIn K cd10 "_law_number" = true) (k10 : PySem.W.keepIn K (.ref f10) = true)
    (a11 : PySem.W.nsIn K mainGlobals "_law_operator" = some (some (.ref f11))) (l11 : K.lookup f11 = some ⟨oc11, od11, .func (PySem.W.fnOf "_law_operator" "_law_operator" (defArgs s__law_operator) (defBody s__law_operator) (defScope s__law_operator) .none kV11 dc11 pm11 an11 cd11 ct11), sl11⟩) (c11 : PySem.W.codeIn K cd11 "_law_operator" = true) (k11 : PySem.W.keepIn K (.ref f11) = true)
    (a12 : PySem.W.nsIn K mainGlobals "_law_index" = some (some (.ref f12))) (l12 : K.lookup f12 = some ⟨oc12, od12, .func (PySem.W.fnOf "_law_index" "_law_index" (defArgs s__law_index) (defBody s__law_index) (defScope s__law_index) .none kV12 dc12 pm12 an12 cd12 ct12), sl12⟩) (c12 : PySem.W.codeIn K cd12 "_law_index" = true) (k12 : PySem.W.keepIn K (.ref f12) = true)
    (a13 : PySem.W.nsIn K mainGlobals "_law_read" = some (some (.ref f13))) (l13 : K.lookup f13 = some ⟨oc13, od13, .func (PySem.W.fnOf "_law_read" "_law_read" (defArgs s__law_read) (defBody s__law_read) (defScope s__law_read) .none kV13 dc13 pm13 an13 cd13 ct13), sl13⟩) (c13 : PySem.W.codeIn K cd13 "_law_read" = true) (k13 : PySem.W.keepIn K (.ref f13) = true)
    (a14 : PySem.W.nsIn K mainGlobals "_law_expression" = some (some (.ref f14))) (l14 : K.lookup f14 = some ⟨oc14, od14, .func (PySem.W.fnOf "_law_expression" "_law_expression" (defArgs s__law_expression) (defBody s__law_expression) (defScope s__law_expression) .none kV14 dc14 pm14 an14 cd14 ct14), sl14⟩) (c14 : PySem.W.codeIn K cd14 "_law_expression" = true) (k14 : PySem.W.keepIn K (.ref f14) = true)
    (a15 : PySem.W.nsIn K mainGlobals "_law_target" = some (some (.ref f15))) (l15 : K.lookup f15 = some ⟨oc15, od15, .func (PySem.W.fnOf "_law_target" "_law_target" (defArgs s__law_target) (defBody s__law_target) (defScope s__law_target) .none kV15 dc15 pm15 an15 cd15 ct15), sl15⟩) (c15 : PySem.W.codeIn K cd15 "_law_target" = true) (k15 : PySem.W.keepIn K (.ref f15) = true)
    (a16 : PySem.W.nsIn K mainGlobals "_law_binary" = some (some (.ref f16))) (l16 : K.lookup f16 = some ⟨oc16, od16, .func (PySem.W.fnOf "_law_binary" "_law_binary" (defArgs s__law_binary) (defBody s__law_binary) (defScope s__law_binary) .none kV16 dc16 pm16 an16 cd16 ct16), sl16⟩) (c16 : PySem.W.codeIn K cd16 "_law_binary" = true) (k16 : PySem.W.keepIn K (.ref f16) = true)
    (a17 : PySem.W.nsIn K mainGlobals "_law_value" = some (some (.ref f17))) (l17 : K.lookup f17 = some ⟨oc17, od17, .func (PySem.W.fnOf "_law_value" "_law_value" (defArgs s__law_value) (defBody s__law_value) (defScope s__law_value) .none kV17 dc17 pm17 an17 cd17 ct17), sl17⟩) (c17 : PySem.W.codeIn K cd17 "_law_value" = true) (k17 : PySem.W.keepIn K (.ref f17) = true)
    (a18 : PySem.W.nsIn K mainGlobals "_law_where" = some (some (.ref f18))) (l18 : K.lookup f18 = some ⟨oc18, od18, .func (PySem.W.fnOf "_law_where" "_law_where" (defArgs s__law_where) (defBody s__law_where) (defScope s__law_where) .none kV18 dc18 pm18 an18 cd18 ct18), sl18⟩) (c18 : PySem.W.codeIn K cd18 "_law_where" = true) (k18 : PySem.W.keepIn K (.ref f18) = true)
    (a19 : PySem.W.nsIn K mainGlobals "_law_deep" = some (some (.ref f19))) (l19 : K.lookup f19 = some ⟨oc19, od19, .func (PySem.W.fnOf "_law_deep" "_law_deep" (defArgs s__law_deep) (defBody s__law_deep) (defScope s__law_deep) .none kV19 dc19 pm19 an19 cd19 ct19), sl19⟩) (c19 : PySem.W.codeIn K cd19 "_law_deep" = true) (k19 : PySem.W.keepIn K (.ref f19) = true)
    (a20 : PySem.W.nsIn K mainGlobals "law" = some (some (.ref f20))) (l20 : K.lookup f20 = some ⟨oc20, od20, .func (PySem.W.fnOf "law" "law" (defArgs s_law) (defBody s_law) (defScope s_law) .none kV20 dc20 pm20 an20 cd20 ct20), sl20⟩) (c20 : PySem.W.codeIn K cd20 "law" = true) (k20 : PySem.W.keepIn K (.ref f20) = true)
    (z_n_len : PySem.W.nsIn K mainGlobals "len" = some none) (z_n_int : PySem.W.nsIn K mainGlobals "int" = some none) (z_n_abs : PySem.W.nsIn K mainGlobals "abs" = some none) (z_n_range : PySem.W.nsIn K mainGlobals "range" = some none) (z_n_list : PySem.W.nsIn K mainGlobals "list" = some none) (z_n_bool : PySem.W.nsIn K mainGlobals "bool" = some none) (z_n_isinstance : PySem.W.nsIn K mainGlobals "isinstance" = some none) {t_c_WORDS : Tok} (z_c_WORDS : PySem.W.nsIn K mainGlobals "WORDS" = some (some (.int 65536 t_c_WORDS))) :
    ∃ fd : FuncData, (∀ (s : Shared) (v : Value), BindsTo s fd ⟨[v], []⟩ [("script", v)]) ∧ ∀ base : Heap, K.In base → base.Ns mainGlobals mg → FnOk l.prog w K mg base CX0 18 fa fd ["script"] (sp_law K) := by
  have e := hfa.symm.trans (PySem.W.mg_of X G a20)
  cases e
  have FL := fun_mk (st := s_law) l20 c20 k20
  have D_value : Dn K mg "value" s_value p_value := dn_mk X G a0 l0 c0 k0 (fun _ _ _ _ _ _ us hl => match us, hl with | [_, _], _ => rfl)
  have D_place : Dn K mg "place" s_place p_place := dn_mk X G a1 l1 c1 k1 (fun _ _ _ _ _ _ us hl => match us, hl with | [_, _], _ => rfl)
  have D_operate : Dn K mg "operate" s_operate p_operate := dn_mk X G a2 l2 c2 k2 (fun _ _ _ _ _ _ us hl => match us, hl with | [_, _], _ => rfl)
  have D_calculate : Dn K mg "calculate" s_calculate p_calculate := dn_mk X G a3 l3 c3 k3 (fun _ _ _ _ _ _ us hl => match us, hl with | [_, _, _], _ => rfl)
  have D_divide : Dn K mg "divide" s_divide p_divide := dn_mk X G a4 l4 c4 k4 (fun _ _ _ _ _ _ us hl => match us, hl with | [_, _, _], _ => rfl)
  have D_holds : Dn K mg "holds" s_holds p_holds := dn_mk X G a5 l5 c5 k5 (fun _ _ _ _ _ _ us hl => match us, hl with | [_, _, _], _ => rfl)
  have D_bit : Dn K mg "bit" s_bit p_bit := dn_mk X G a6 l6 c6 k6 (fun _ _ _ _ _ _ us hl => match us, hl with | [_], _ => rfl)
  have D__law_state : Dn K mg "_law_state" s__law_state p__law_state := dn_mk X G a7 l7 c7 k7 (fun _ _ _ _ _ _ us hl => match us, hl with | [_], _ => rfl)
  have D__law_draw : Dn K mg "_law_draw" s__law_draw p__law_draw := dn_mk X G a8 l8 c8 k8 (fun _ _ _ _ _ _ us hl => match us, hl with | [_, _], _ => rfl)
  have D__law_pick : Dn K mg "_law_pick" s__law_pick p__law_pick := dn_mk X G a9 l9 c9 k9 (fun _ _ _ _ _ _ us hl => match us, hl with | [_, _], _ => rfl)
  have D__law_number : Dn K mg "_law_number" s__law_number p__law_number := dn_mk X G a10 l10 c10 k10 (fun _ _ _ _ _ _ us hl => match us, hl with | [_], _ => rfl)
  have D__law_operator : Dn K mg "_law_operator" s__law_operator p__law_operator := dn_mk X G a11 l11 c11 k11 (fun _ _ _ _ _ _ us hl => match us, hl with | [_], _ => rfl)
  have D__law_index : Dn K mg "_law_index" s__law_index p__law_index := dn_mk X G a12 l12 c12 k12 (fun _ _ _ _ _ _ us hl => match us, hl with | [_, _, _], _ => rfl)
  have D__law_read : Dn K mg "_law_read" s__law_read p__law_read := dn_mk X G a13 l13 c13 k13 (fun _ _ _ _ _ _ us hl => match us, hl with | [_, _], _ => rfl)
  have D__law_expression : Dn K mg "_law_expression" s__law_expression p__law_expression := dn_mk X G a14 l14 c14 k14 (fun _ _ _ _ _ _ us hl => match us, hl with | [_, _, _], _ => rfl)
  have D__law_target : Dn K mg "_law_target" s__law_target p__law_target := dn_mk X G a15 l15 c15 k15 (fun _ _ _ _ _ _ us hl => match us, hl with | [_, _], _ => rfl)
  have D__law_binary : Dn K mg "_law_binary" s__law_binary p__law_binary := dn_mk X G a16 l16 c16 k16 (fun _ _ _ _ _ _ us hl => match us, hl with | [_, _, _], _ => rfl)
  have D__law_value : Dn K mg "_law_value" s__law_value p__law_value := dn_mk X G a17 l17 c17 k17 (fun _ _ _ _ _ _ us hl => match us, hl with | [_, _], _ => rfl)
  have D__law_where : Dn K mg "_law_where" s__law_where p__law_where := dn_mk X G a18 l18 c18 k18 (fun _ _ _ _ _ _ us hl => match us, hl with | [_, _], _ => rfl)
  have D__law_deep : Dn K mg "_law_deep" s__law_deep p__law_deep := dn_mk X G a19 l19 c19 k19 (fun _ _ _ _ _ _ us hl => match us, hl with | [_, _, _], _ => rfl)
  have T : Txt mg := ⟨PySem.W.mg_none_of X G z_n_len, PySem.W.mg_none_of X G z_n_int, PySem.W.mg_none_of X G z_n_abs, PySem.W.mg_none_of X G z_n_range, PySem.W.mg_none_of X G z_n_list, PySem.W.mg_none_of X G z_n_bool, PySem.W.mg_none_of X G z_n_isinstance, ⟨_, PySem.W.mg_of X G z_c_WORDS⟩⟩
  refine ⟨PySem.W.fnOf "law" "law" (defArgs s_law) (defBody s_law) (defScope s_law) .none kV20 dc20 pm20 an20 cd20 ct20, fun s v => .of_eq rfl, fun base _ _ => ?_⟩
  exact build_law FL T D_value D_place D_operate D_calculate D_divide D_holds D_bit D__law_state D__law_draw D__law_pick D__law_number D__law_operator D__law_index D__law_read D__law_expression D__law_target D__law_binary D__law_value D__law_where D__law_deep
theorem walk {l : PySem.W.OpenLaw} {q : Program} {loose : List Str} {XP : (Str → Option Value) → Heap → Prop} {YP : World → Heap → Prop} {d : DefRec} {K : Params → PySem.W.Frag} (hn : l.most = some 63) (hdf : d.params.defaults = [])
    (hY : ∀ (w : World) (h : Heap), YP w h → (K w.params).In h)
    (F : ∀ (w : World) (mg : Str → Option Value) (fa : Addr) (h : Heap), (K w.params).In h → h.Ns mainGlobals mg → mg d.name = some (.ref fa) →
      ∃ fd : FuncData, (∀ (s : Shared) (u : Value), BindsTo s fd ⟨[u], []⟩ [("script", u)]) ∧ ∀ base : Heap, (K w.params).In base → base.Ns mainGlobals mg → FnOk l.prog w (K w.params) mg base CX0 18 fa fd ["script"] (sp_law (K w.params))) :
    PySem.W.WalkO q loose XP YP l.row.toRowW d [] (fun f vs => PySem.call f vs) :=
  L2.walk_of (n := 63) (k := 18) (x := "script") (CX := fun _ => CX0) (sp := fun w => sp_law (K w.params)) hn (by decide) hdf ⟨rfl, by decide, by decide⟩ hY F (fun _ _ a ns hl _ hS => ⟨a, ns, rfl, hS, hl, fun _ => rfl⟩) fun _ _ _ _ _ z => z
end Y
open PySem PySem.W PyProof.Rows
set_option maxRecDepth 100000 in
set_option maxHeartbeats 0 in
theorem PySem.Challenge.cw_placedanyhow_k10_values_of_expressions_holds : PySem.Challenge.rw_placedanyhow_k10_values_of_expressions.Holds := by
  w_on; o_law; k_head; (case hw => w_witness2)
  k_fill
  refine Y.walk (l := PySem.Challenge.rw_placedanyhow_k10_values_of_expressions) rfl rfl (fun w h Y => PySem.W.kIn_of Y) ?F
  case F =>
    intro w mg fa h KX G hmg
    refine' Y.all_mk KX G hmg ?a0 ?l0 ?c0 ?k0 ?a1 ?l1 ?c1 ?k1 ?a2 ?l2 ?c2 ?k2 ?a3 ?l3 ?c3 ?k3 ?a4 ?l4 ?c4 ?k4 ?a5 ?l5 ?c5 ?k5 ?a6 ?l6 ?c6 ?k6 ?a7 ?l7 ?c7 ?k7 ?a8 ?l8 ?c8 ?k8 ?a9 ?l9 ?c9 ?k9 ?a10 ?l10 ?c10 ?k10 ?a11 ?l11 ?c11 ?k11 ?a12 ?l12 ?c12 ?k12 ?a13 ?l13 ?c13 ?k13 ?a14 ?l14 ?c14 ?k14 ?a15 ?l15 ?c15 ?k15 ?a16 ?l16 ?c16 ?k16 ?a17 ?l17 ?c17 ?k17 ?a18 ?l18 ?c18 ?k18 ?a19 ?l19 ?c19 ?k19 ?a20 ?l20 ?c20 ?k20 ?z_n_len ?z_n_int ?z_n_abs ?z_n_range ?z_n_list ?z_n_bool ?z_n_isinstance ?z_c_WORDS
    (case a0 => k_is); (case l0 => k_is); (case c0 => k_is); (case k0 => k_is)
    (case a1 => k_is); (case l1 => k_is); (case c1 => k_is); (case k1 => k_is)
    (case a2 => k_is); (case l2 => k_is); (case c2 => k_is); (case k2 => k_is)
    (case a3 => k_is); (case l3 => k_is); (case c3 => k_is); (case k3 => k_is)
    (case a4 => k_is); (case l4 => k_is); (case c4 => k_is); (case k4 => k_is)
    (case a5 => k_is); (case l5 => k_is); (case c5 => k_is); (case k5 => k_is)
    (case a6 => k_is); (case l6 => k_is); (case c6 => k_is); (case k6 => k_is)
    (case a7 => k_is); (case l7 => k_is); (case c7 => k_is); (case k7 => k_is)
    (case a8 => k_is); (case l8 => k_is); (case c8 => k_is); (case k8 => k_is)
    (case a9 => k_is); (case l9 => k_is); (case c9 => k_is); (case k9 => k_is)
    (case a10 => k_is); (case l10 => k_is); (case c10 => k_is); (case k10 => k_is)
    (case a11 => k_is); (case l11 => k_is); (case c11 => k_is); (case k11 => k_is)
    (case a12 => k_is); (case l12 => k_is); (case c12 => k_is); (case k12 => k_is)
    (case a13 => k_is); (case l13 => k_is); (case c13 => k_is); (case k13 => k_is)
    (case a14 => k_is); (case l14 => k_is); (case c14 => k_is); (case k14 => k_is)
    (case a15 => k_is); (case l15 => k_is); (case c15 => k_is); (case k15 => k_is)
    (case a16 => k_is); (case l16 => k_is); (case c16 => k_is); (case k16 => k_is)
    (case a17 => k_is); (case l17 => k_is); (case c17 => k_is); (case k17 => k_is)
    (case a18 => k_is); (case l18 => k_is); (case c18 => k_is); (case k18 => k_is)
    (case a19 => k_is); (case l19 => k_is); (case c19 => k_is); (case k19 => k_is)
    (case a20 => k_is); (case l20 => k_is); (case c20 => k_is); (case k20 => k_is)
    (case z_n_len => k_is)
    (case z_n_int => k_is)
    (case z_n_abs => k_is)
    (case z_n_range => k_is)
    (case z_n_list => k_is)
    (case z_n_bool => k_is)
    (case z_n_isinstance => k_is)
    (case z_c_WORDS => k_is)
#print axioms PySem.Challenge.cw_placedanyhow_k10_values_of_expressions_holds
