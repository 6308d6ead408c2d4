import PyProof.Rows.All
import Wide.All
import OpenK.AllK
import Wide.FinOn
import HandS.ForMost
import HandS.IsInst
import HandS.Steps
import HandS.StrMore
import HandS.Codes
import HandS.More
import HandS.Strs
import HandS.Text
import HandS.TryOnly
import PyProof.AutoSeq1
import HandS.Deep
import HandS.CallLocal
import HandS.Conv
import HandS.DictComp
import HandS.Style
import HandS.Walk
import KE.KExcIs
import PySem.Challenge.RW_placedanyhow_k36_code_of_expressions
set_option Elab.async false
set_option linter.all false
set_option maxRecDepth 100000
set_option maxHeartbeats 4000000
namespace Y
open PySem L2

/-! ### rules joined -/
section
variable {X : Cx}
def rAddA (K : PySem.W.Frag) : R2 := fun x y H Q => rI0 (fun i j => .int (i + j)) x y H Q ∨ (∃ i j, x = V.str i ∧ y = V.str j ∧ i.length + j.length ≤ sizeLine ∧ Q (.str (i ++ j)) H) ∨ rCat x y H Q ∨ rCatT K x y H Q
theorem op_addA : OpR X (binaryOp .Add) (rAddA X.K) := op_add.or (op_add_str.or (op_cat.or op_catT))
def rEqA (K : PySem.W.Frag) : R2 := fun x y H Q => rEq x y H Q ∨ rEqD K x y H Q
def rNeA (K : PySem.W.Frag) : R2 := fun x y H Q => rNe x y H Q ∨ rNeD K x y H Q
theorem op_eqA (hu : X.A.units + 64 < cLine) : OpR X (compareOp .Eq) (rEqA X.K) := op_eq.or (op_eqD hu)
theorem op_neA (hu : X.A.units + 64 < cLine) : OpR X (compareOp .NotEq) (rNeA X.K) := op_ne.or (op_neD hu)
def rLenA (K : PySem.W.Frag) : List V → Hp → VK → Prop := fun xs H Q => (∃ p ys, xs = [V.ref p] ∧ (SqL K H p ys ∨ SqT K H p ys) ∧ Q (.int ys.length) H) ∨ ∃ z, xs = [V.str z] ∧ z.length ≤ sizeLine ∧ Q (.int z.length) H
theorem call_lenA : CallR X (.builtin "len") (rLenA X.K) := call_len_seq.or call_len_str
def rSlA (K : PySem.W.Frag) : V → Option Int → Option Int → Hp → VK → Prop := fun x lo hi H Q => rSlL K x lo hi H Q ∨ rSlT K x lo hi H Q
theorem sl_any : SlR X (rSlA X.K) := sl_list.or sl_tup
theorem hu64 {A : Around} {k : Nat} (hr : Room k A) : A.units + 64 < cLine := by have := hr.un; omega
theorem pe_globC {x : Str} {n : Int} {pos : Pos} (hg : Gl X x) (hm : ∃ t, X.mg x = some (.int n t)) (hd : (x == ("__debug__" : Str)) = false := by decide) : PE X (.Name x pos) (tC (.int n)) := by
  obtain ⟨t, h⟩ := hm
  exact pe_glob hg h ⟨t, rfl⟩ hd
theorem pe_ty {x : Str} {n : String} {pos : Pos} (hg : Gl X x) (hm : X.mg x = none) (hv : bootBuiltins x = some (.type n)) (hn : x ≠ "__name__" := by decide) (hd : (x == ("__debug__" : Str)) = false := by decide) : PE X (.Name x pos) (tC (.ty n)) := pe_bltn hg hm hv rfl hn hd
end

section
variable {X : Cx} {K : PySem.W.Frag}
theorem op_eqK (hK : X.K = K) (hu : X.A.units + 64 < cLine) : OpR X (compareOp .Eq) (rEqA K) := hK ▸ op_eqA hu
theorem op_neK (hK : X.K = K) (hu : X.A.units + 64 < cLine) : OpR X (compareOp .NotEq) (rNeA K) := hK ▸ op_neA hu
theorem op_addK (hK : X.K = K) : OpR X (binaryOp .Add) (rAddA K) := hK ▸ op_addA
theorem ix_seqK (hK : X.K = K) : IxR X (rIx K) := hK ▸ ix_seq
theorem call_lenK (hK : X.K = K) : CallR X (.builtin "len") (rLenA K) := hK ▸ call_lenA
theorem op_inK (hK : X.K = K) : OpR X (compareOp .In) (rIn K false) := hK ▸ op_in_seq
theorem op_notInK (hK : X.K = K) : OpR X (compareOp .NotIn) (rIn K true) := hK ▸ op_notIn_seq
theorem sl_anyK (hK : X.K = K) : SlR X (rSlA K) := hK ▸ sl_any
theorem pi_listK {tg l : Expr} {tl : TE} (hK : X.K = K) (hl : PE X l tl) : PI X tg l (iList K tl) := hK ▸ pi_list hl
end
section
variable {X : Cx}
def rIsN : R2 := fun x y H Q => y = .non ∧ Q (.bl (decide (x = .non))) H
def rNotN : R2 := fun x y H Q => y = .non ∧ Q (.bl (!decide (x = .non))) H
theorem op_isN1 : OpR X (compareOp .Is) rIsN := op_isN
theorem op_notN1 : OpR X (compareOp .IsNot) rNotN := op_notN
end
section
variable {X : Cx}
def rInt : List V → Hp → VK → Prop := fun xs H Q => (∃ i, xs = [V.int i] ∧ Q (.int i) H) ∨ ∃ k, xs = [.bl k] ∧ Q (.int (if k then 1 else 0)) H
def rAbs : List V → Hp → VK → Prop := fun xs H Q => ∃ i, xs = [V.int i] ∧ Q (.int (if i < 0 then -i else i)) H
def rListOf (K : PySem.W.Frag) : List V → Hp → VK → Prop := fun xs H Q => ∃ p ys, xs = [V.ref p] ∧ (SqL K H p ys ∨ SqT K H p ys) ∧ ∀ l, H l = none → Q (.ref l) (upd H l (.lst ys))
theorem call_intA : CallR X (.type "int") rInt := call_int1
theorem call_absA : CallR X (.builtin "abs") rAbs := call_abs
theorem call_listA : CallR X (.type "list") (rListOf X.K) := call_list_of
end
/-! ### defs -/
section
variable (P : Program) (w : World) (K : PySem.W.Frag) (mg : Str → Option Value) (base : Heap)
/-- a def of the text as it stands behind the top -/
def Dn (x : Str) (st : Stmt) (ps : List Str) : Prop := ∃ f fd, Fun K x x st f fd ∧ mg x = some (.ref f) ∧ Binds K fd ps []
/-- a def that keeps its promise -/
def Cal (x : Str) (k : Nat) (ps : List Str) (sp : Sp) : Prop := ∃ f fd, FnOk P w K mg base CX0 k f fd ps sp ∧ mg x = some (.ref f) ∧ PySem.W.keepIn K (.ref f) = true ∧ Binds K fd ps []
end
section
variable {P : Program} {w : World} {K : PySem.W.Frag} {mg : Str → Option Value} {base : Heap}
theorem Dn.ok {x : Str} {st : Stmt} {N ps : List Str} {k : Nat} {sp : Sp} (D : Dn K mg x st ps) (S : FnScope N ps (defScope st)) (len : ∀ vs H Q E, sp vs H Q E → vs.length = ps.length)
    (hbody : ∀ (f : Addr) (cdv : Value) (A : Around) (outer : List Env) (s : Shared) (H : Hp) (vs : List V) (Q : VK) (E : XK), Room k (A.deeper (PyProof.Rows.envOfC x (defScope st) s.heap.objs.size f cdv)) → sp vs H Q E →
      ∃ t, PSs (cxOf CX0 P w K mg base N x (defScope st) f cdv A outer s H E).nox (defBody st) t ∧ t { nx := fun _ H' => Q .non H', rt := Q } (start N vs) H) : Cal P w K mg base x (k + 1) ps sp := by
  obtain ⟨f, fd, F, m, b⟩ := D
  exact ⟨f, fd, F.ok S len (hbody f), m, F.kp, b⟩
theorem pe_cal {X : Cx} {x : Str} {k : Nat} {ps : List Str} {sp : Sp} {e : Expr} {es : List Expr} {t : TA} {p pos : Pos} (G : Cal X.prog X.w X.K X.mg X.base x k ps sp) (hr : Room k X.A) (hg : Gl X x) (ha : PA X (e :: es) t)
    (hdb : (x == ("__debug__" : Str)) = false := by decide) (he : starEach (e :: es) X.env = (false, eval e X.env) :: starEach es X.env := by rfl) (hpl : (backTo pos (starEach es X.env)).any (·.1) = false := by rfl) : PE X (.Call (.Name x p) (e :: es) [] pos) (tCall sp [] E0 t) := by
  obtain ⟨f, fd, F, m, kp, b⟩ := G
  exact pe_call F hr hg m kp b .nil pass0 ha hdb he hpl
theorem pe_cal0 {X : Cx} {x : Str} {k : Nat} {ps : List Str} {sp : Sp} {p pos : Pos} (G : Cal X.prog X.w X.K X.mg X.base x k ps sp) (hr : Room k X.A) (hg : Gl X x)
    (hdb : (x == ("__debug__" : Str)) = false := by decide) : PE X (.Call (.Name x p) [] [] pos) (tCall sp [] E0 tNil) := by
  obtain ⟨f, fd, F, m, kp, b⟩ := G
  exact pe_call0 F hr hg m kp b .nil pass0 hdb
end

/-! ### heaps -/
/-- all that was tracked stays -/
def Ex (H H' : Hp) : Prop := ∀ a o, H a = some o → H' a = some o
/-- all tuples stay, and all that is not at M -/
structure Kp (M : List Addr) (H H' : Hp) : Prop where
  tup : ∀ a xs, H a = some (.tup xs) → H' a = some (.tup xs)
  out : ∀ a o, a ∉ M → H a = some o → H' a = some o
theorem Ex.refl (H : Hp) : Ex H H := fun _ _ h => h
theorem Ex.trans {H H1 H2 : Hp} (a : Ex H H1) (b : Ex H1 H2) : Ex H H2 := fun x o h => b x o (a x o h)
theorem Ex.same {H H' : Hp} (e : Ex H H') : L2.Same H H' := e
theorem Ex.kp {M : List Addr} {H H' : Hp} (e : Ex H H') : Kp M H H' := ⟨fun a xs h => e a _ h, fun a o _ h => e a o h⟩
theorem Kp.refl {M : List Addr} (H : Hp) : Kp M H H := (Ex.refl H).kp
theorem Kp.trans {M : List Addr} {H H1 H2 : Hp} (a : Kp M H H1) (b : Kp M H1 H2) : Kp M H H2 := ⟨fun x o h => b.tup x o (a.tup x o h), fun x o n h => b.out x o n (a.out x o n h)⟩
theorem Kp.sub {M N : List Addr} {H H' : Hp} (a : Kp M H H') (s : ∀ x, x ∈ M → x ∈ N) : Kp N H H' := ⟨a.tup, fun x o n h => a.out x o (fun z => n (s x z)) h⟩
theorem Ex.mk {H H2 : Hp} {p : Addr} {o : HO} (h : H p = none) (e : upd H p o = H2) : Ex H H2 := fun a u ha => by
  rw [← e, upd_ne (ne_of_none ha h)]
  exact ha
theorem at_new {H H2 : Hp} {p : Addr} {o : HO} (e : upd H p o = H2) : H2 p = some o := by rw [← e]; exact upd_same
theorem Kp.set {M : List Addr} {H H2 : Hp} {p : Addr} {o : HO} (hm : p ∈ M) (ht : ∀ xs, H p ≠ some (.tup xs)) (e : upd H p o = H2) : Kp M H H2 := ⟨fun a xs h => by
  rw [← e, upd_ne (fun z => ht xs (by rw [← z]; exact h))]
  exact h, fun a u n h => by
  rw [← e, upd_ne (fun z => n (by rw [z]; exact hm))]
  exact h⟩
theorem free_back {H H' : Hp} {p : Addr} (e : Ex H H') (h : H' p = none) : H p = none := by
  cases h1 : H p with
  | none => rfl
  | some o => rw [e p o h1] at h; cases h
theorem free_backK {M : List Addr} {H H' : Hp} {p : Addr} (e : Kp M H H') (hm : p ∉ M) (h : H' p = none) : H p = none := by
  cases h1 : H p with
  | none => rfl
  | some o => rw [e.out p o hm h1] at h; cases h
theorem at_ex {H H' : Hp} {p : Addr} {o : HO} (e : Ex H H') (h : H p = some o) : H' p = some o := e p o h
theorem at_kp {M : List Addr} {H H' : Hp} {p : Addr} {o : HO} (e : Kp M H H') (hm : p ∉ M) (h : H p = some o) : H' p = some o := e.out p o hm h
theorem tup_kp {M : List Addr} {H H' : Hp} {p : Addr} {xs : List V} (e : Kp M H H') (h : H p = some (.tup xs)) : H' p = some (.tup xs) := e.tup p xs h
theorem sqt {K : PySem.W.Frag} {H : Hp} {p : Addr} {xs : List V} (h : H p = some (.tup xs)) : SqT K H p xs := Or.inl (Or.inl h)
theorem sql {K : PySem.W.Frag} {H : Hp} {p : Addr} {xs : List V} (h : H p = some (.lst xs)) : SqL K H p xs := Or.inl (Or.inl h)
theorem sl1000 {n : Nat} (h : n ≤ 100000) : n ≤ sizeLine := Nat.le_trans h (by decide)
theorem sl1000' {n : Nat} (h : n < 100000) : n < sizeLine := Nat.lt_of_lt_of_le h (by decide)

theorem at0 {α : Type} {x : α} {xs : List α} : atI (x :: xs) 0 = some x := atI_nat (j := 0) rfl
theorem at_i {α : Type} {xs : List α} {n : Int} (h0 : 0 ≤ n) (h1 : n < xs.length) : ∃ v, xs[n.toNat]? = some v ∧ atI xs n = some v := by
  have hk : n.toNat < xs.length := by omega
  have e : n = ((n.toNat : Nat) : Int) := by omega
  refine ⟨xs[n.toNat], List.getElem?_eq_getElem hk, ?_⟩
  have q : atI xs ((n.toNat : Nat) : Int) = some xs[n.toNat] := atI_nat (List.getElem?_eq_getElem hk)
  rw [← e] at q
  exact q
/-! ### readings, step by step -/
def newT (Q : VK) (xs : List V) (H : Hp) : Prop := xs.length ≤ sizeLine ∧ ∀ p, H p = none → Q (.ref p) (upd H p (.tup xs))
def newL (Q : VK) (xs : List V) (H : Hp) : Prop := xs.length ≤ sizeLine ∧ ∀ p, H p = none → Q (.ref p) (upd H p (.lst xs))
theorem cut1 (xs : List V) : cutV xs (some 1) none = xs.drop 1 := by
  unfold cutV
  rw [show HT.sIx xs.length 0 (some 1) = min 1 xs.length from HT.sIx_nat xs.length 0 1, HT.sIx_none]
  cases xs with
  | nil => rfl
  | cons x r =>
    rw [show min 1 (x :: r).length = 1 by
      rw [List.length_cons]
      omega]
    show (List.take ((x :: r).length - 1) r) = r
    rw [List.length_cons, Nat.add_sub_cancel]
    exact List.take_length
section
variable {K : PySem.W.Frag} {σ : L2.St} {H : Hp} {Q : VK} {QT : Bool → Hp → Prop} {QA : List V → Hp → Prop} {QS : L2.St → Hp → Prop} {v x y : V} {i : Nat} {ta tb te : TE} {t u c : TT} {tr : TA} {r : R2} {ts us : TS} {nx bk ct : L2.St → Hp → Prop} {rt : VK} {g : TG} {gs : TGs}
theorem r_var (h : σ[i]? = some (some v)) (q : Q v H) : tVar i σ H Q := ⟨v, h, q⟩
theorem r_c (q : Q v H) : tC v σ H Q := q
theorem r_op (q : ta σ H fun x H1 => tb σ H1 fun y H2 => r x y H2 Q) : tOp r ta tb σ H Q := q
theorem r_un {r : V → Hp → VK → Prop} (q : ta σ H fun x H1 => r x H1 Q) : tUn r ta σ H Q := q
theorem r_tup (q : tr σ H fun xs H1 => newT Q xs H1) : tTup tr σ H Q := q
theorem r_lst (q : tr σ H fun xs H1 => newL Q xs H1) : tLst tr σ H Q := q
theorem q_newT {xs : List V} (hl : xs.length ≤ 100000) (q : ∀ p Hn, H p = none → Ex H Hn → Hn p = some (.tup xs) → Q (.ref p) Hn) : newT Q xs H := ⟨sl1000 hl, fun p hp => q p _ hp (Ex.mk hp rfl) upd_same⟩
theorem q_newL {xs : List V} (hl : xs.length ≤ 100000) (q : ∀ p Hn, H p = none → Ex H Hn → Hn p = some (.lst xs) → Q (.ref p) Hn) : newL Q xs H := ⟨sl1000 hl, fun p hp => q p _ hp (Ex.mk hp rfl) upd_same⟩
theorem r_cons (q : ta σ H fun x H1 => tr σ H1 fun xs H2 => QA (x :: xs) H2) : tCons ta tr σ H QA := q
theorem r_nil (q : QA [] H) : tNil σ H QA := q
theorem r_cb {r : List V → Hp → VK → Prop} (q : tr σ H fun vs H1 => r vs H1 Q) : tCB r tr σ H Q := q
theorem r_call {sp : Sp} {E : XK} (q : tr σ H fun vs H1 => sp vs H1 Q E) : tCall sp [] E tr σ H Q := by
  have e : (fun (vs : List V) (H1 : Hp) => sp (vs ++ []) H1 Q E) = fun vs H1 => sp vs H1 Q E := by
    funext vs H1
    rw [List.append_nil]
  show tr σ H (fun vs H1 => sp (vs ++ []) H1 Q E)
  rw [e]
  exact q
theorem r_ifE (q : t σ H fun c H1 => if c = true then ta σ H1 Q else tb σ H1 Q) : tIf t ta tb σ H Q := q
theorem r_sl {r : V → Option Int → Option Int → Hp → VK → Prop} {tl th : TO} (q : te σ H fun x H1 => tl σ H1 fun l H2 => th σ H2 fun u H3 => r x l u H3 Q) : tSl r te tl th σ H Q := q
theorem r_nopart {Q : Option Int → Hp → Prop} (q : Q none H) : tNoPart σ H Q := q
theorem r_part {Q : Option Int → Hp → Prop} (q : te σ H fun x H1 => ∃ i, x = .int i ∧ Q (some i) H1) : tPart te σ H Q := q
theorem q_part {i : Int} {B : Int → Prop} (q : B i) : ∃ j, V.int i = .int j ∧ B j := ⟨i, rfl, q⟩
theorem r_dget {td ty : TE} (q : td σ H fun x H1 => ty σ H1 fun y H2 => ∃ a v, x = .ref a ∧ DGet H2 a y (some v) ∧ Q v H2) : tDGet td ty σ H Q := q
theorem q_dget {p : Addr} {kvs : List (Key × V)} {z : Str} {B : V → Prop} (h : H p = some (.dK kvs)) (hl : valV kvs (Sum.inr z) = some v) (q : B v) : ∃ a v', V.ref p = .ref a ∧ DGet H a (.str z) (some v') ∧ B v' :=
  ⟨p, v, rfl, by rw [← hl]; exact DGet.k (k := Sum.inr z) h, q⟩
theorem r_andV (q : ta σ H fun x H1 => ∃ c, x = .bl c ∧ if c = true then tb σ H1 Q else Q (.bl false) H1) : tAndV ta tb σ H Q := q
theorem r_orV (q : ta σ H fun x H1 => ∃ c, x = .bl c ∧ if c = true then Q (.bl true) H1 else tb σ H1 Q) : tOrV ta tb σ H Q := q
theorem r_notV (q : ta σ H fun x H1 => ∃ c, x = .bl c ∧ Q (.bl (!c)) H1) : tNotV ta σ H Q := q
theorem r_test (q : te σ H fun x H' => ∃ k, x = .bl k ∧ QT k H') : tTest te σ H QT := q
theorem r_tB (q : te σ H fun x H1 => ∃ c, x = .bl c ∧ QT c H1) : tB te σ H QT := q
theorem q_exb {b : Bool} {B : Bool → Prop} (q : B b) : ∃ k, V.bl b = .bl k ∧ B k := ⟨b, rfl, q⟩
theorem r_and (q : t σ H fun c H1 => if c = true then u σ H1 QT else QT false H1) : tAnd t u σ H QT := q
theorem r_or (q : t σ H fun c H1 => if c = true then QT true H1 else u σ H1 QT) : tOr t u σ H QT := q
theorem r_not (q : t σ H fun c H1 => QT (!c) H1) : tNot t σ H QT := q
theorem r_seq (q : ts ⟨us ⟨nx, rt, bk, ct⟩, rt, bk, ct⟩ σ H) : tSeq ts us ⟨nx, rt, bk, ct⟩ σ H := q
theorem r_next (q : nx σ H) : tNext ⟨nx, rt, bk, ct⟩ σ H := q
theorem r_ifS (q : c σ H fun b H1 => if b = true then ts ⟨nx, rt, bk, ct⟩ σ H1 else us ⟨nx, rt, bk, ct⟩ σ H1) : tIfS c ts us ⟨nx, rt, bk, ct⟩ σ H := q
theorem r_asg (q : te σ H fun x H1 => g x σ H1 nx) : tAsg te g ⟨nx, rt, bk, ct⟩ σ H := q
theorem r_aug {ti : TIp} (h : σ[i]? = some (some v)) (q : te σ H fun y H1 => ti v y H1 fun z H2 => nx (σ.set i (some z)) H2) : tAug i te ti ⟨nx, rt, bk, ct⟩ σ H := ⟨v, h, q⟩
theorem q_ip {f : Int → Int → Int} {i j : Int} (q : Q (.int (f i j)) H) : ipI f (.int i) (.int j) H Q := ⟨i, j, rfl, rfl, q⟩
theorem r_drop (q : te σ H fun _ H1 => nx σ H1) : tDrop te ⟨nx, rt, bk, ct⟩ σ H := q
theorem r_ret (q : te σ H rt) : tRet te ⟨nx, rt, bk, ct⟩ σ H := q
theorem r_retN (q : rt .non H) : tRetN ⟨nx, rt, bk, ct⟩ σ H := q
theorem r_gname (q : QS (σ.set i (some v)) H) : gName i v σ H QS := q
theorem r_gnil (q : QS σ H) : gNil [] σ H QS := ⟨rfl, q⟩
theorem r_gcons {vs : List V} (q : g v σ H fun σ' H' => gs vs σ' H' QS) : gCons g gs (v :: vs) σ H QS := ⟨v, vs, rfl, q⟩
theorem r_gtup {p : Addr} {xs : List V} {n : Nat} (h : SqT K H p xs) (hl : xs.length = n) (q : gs xs σ H QS) : gTup K n gs (.ref p) σ H QS := ⟨p, xs, rfl, h, hl, q⟩
theorem r_gsub {to ti : TE} {s : TSet} (q : to σ H fun o H1 => ti σ H1 fun i H2 => s o i v H2 fun H3 => QS σ H3) : gSub to ti s v σ H QS := q
theorem r_bm {T : String} {r : V → List V → Hp → VK → Prop} (q : te σ H fun x H1 => tyV K T x H1 ∧ tr σ H1 fun xs H2 => r x xs H2 Q) : tBM K T r te tr σ H Q := q
theorem r_bm0 {T : String} {r : V → List V → Hp → VK → Prop} (q : te σ H fun x H1 => tyV K T x H1 ∧ r x [] H1 Q) : tBM0 K T r te σ H Q := q
theorem q_tyL {p : Addr} {xs : List V} {A : Prop} (h : H p = some (.lst xs)) (q : A) : tyV K "list" (.ref p) H ∧ A := ⟨Or.inl ⟨rfl, xs, sql h⟩, q⟩

theorem cast_q {x y : V} (e : x = y) (h : Q x H) : Q y H := e ▸ h
/-! ### operations on values -/
theorem q_addI {i j : Int} (q : Q (.int (i + j)) H) : rAddA K (.int i) (.int j) H Q := .inl ⟨i, j, rfl, rfl, q⟩
theorem q_I0 {f : Int → Int → V} {i j : Int} (q : Q (f i j) H) : rI0 f (.int i) (.int j) H Q := ⟨i, j, rfl, rfl, q⟩
theorem q_I {C : Int → Int → Prop} {f : Int → Int → V} {i j : Int} (h : C i j) (q : Q (f i j) H) : rI C f (.int i) (.int j) H Q := ⟨i, j, rfl, rfl, h, q⟩
theorem q_U {f : Int → V} {i : Int} (q : Q (f i) H) : rU f (.int i) H Q := ⟨i, rfl, q⟩
theorem q_ixT {p : Addr} {xs : List V} {i : Int} (h : SqT K H p xs) (ha : atI xs i = some v) (q : Q v H) : rIx K (.ref p) (.int i) H Q := .inr (.inl ⟨p, xs, i, v, rfl, rfl, h, ha, q⟩)
theorem q_ixL {p : Addr} {xs : List V} {i : Int} (h : SqL K H p xs) (ha : atI xs i = some v) (q : Q v H) : rIx K (.ref p) (.int i) H Q := .inl ⟨p, xs, i, v, rfl, rfl, h, ha, q⟩
theorem q_eqY (hs : scal x y = true) (he : x = y) (q : Q (.bl true) H) : rEqA K x y H Q := .inl ⟨hs, by rw [decide_eq_true he]; exact q⟩
theorem q_eqN (hs : scal x y = true) (he : ¬ x = y) (q : Q (.bl false) H) : rEqA K x y H Q := .inl ⟨hs, by rw [decide_eq_false he]; exact q⟩
theorem q_eqI {i j : Int} (h1 : i = j → Q (.bl true) H) (h2 : ¬ i = j → Q (.bl false) H) : rEqA K (.int i) (.int j) H Q := by
  by_cases e : i = j
  · exact q_eqY rfl (by rw [e]) (h1 e)
  · exact q_eqN rfl (fun z => e (V.int.inj z)) (h2 e)
theorem q_eqS {i j : Str} (h1 : i = j → Q (.bl true) H) (h2 : ¬ i = j → Q (.bl false) H) : rEqA K (.str i) (.str j) H Q := by
  by_cases e : i = j
  · exact q_eqY rfl (by rw [e]) (h1 e)
  · exact q_eqN rfl (fun z => e (V.str.inj z)) (h2 e)
theorem q_neY (hs : scal x y = true) (he : ¬ x = y) (q : Q (.bl true) H) : rNeA K x y H Q := .inl ⟨hs, by rw [decide_eq_false he]; exact q⟩
theorem q_neN (hs : scal x y = true) (he : x = y) (q : Q (.bl false) H) : rNeA K x y H Q := .inl ⟨hs, by rw [decide_eq_true he]; exact q⟩
theorem q_neI {i j : Int} (h1 : ¬ i = j → Q (.bl true) H) (h2 : i = j → Q (.bl false) H) : rNeA K (.int i) (.int j) H Q := by
  by_cases e : i = j
  · exact q_neN rfl (by rw [e]) (h2 e)
  · exact q_neY rfl (fun z => e (V.int.inj z)) (h1 e)
theorem q_neS {i j : Str} (h1 : ¬ i = j → Q (.bl true) H) (h2 : i = j → Q (.bl false) H) : rNeA K (.str i) (.str j) H Q := by
  by_cases e : i = j
  · exact q_neN rfl (by rw [e]) (h2 e)
  · exact q_neY rfl (fun z => e (V.str.inj z)) (h1 e)
theorem q_cmp {f : Int → Int → Prop} [∀ i j, Decidable (f i j)] {i j : Int} (h1 : f i j → Q (.bl true) H) (h2 : ¬ f i j → Q (.bl false) H) : rI0 (fun i j => .bl (decide (f i j))) (.int i) (.int j) H Q := by
  refine ⟨i, j, rfl, rfl, ?_⟩
  show Q (V.bl (decide (f i j))) H
  by_cases e : f i j
  · rw [decide_eq_true e]; exact h1 e
  · rw [decide_eq_false e]; exact h2 e
theorem cmulL {i j : Int} (h : -(2 ^ 64) < i ∧ i < 2 ^ 64) : CMul i j := .inl h
theorem cmulR {i j : Int} (h : -(2 ^ 64) < j ∧ j < 2 ^ 64) : CMul i j := .inr h
theorem cdiv {i j : Int} (h : 0 < j ∧ j < 1073741824) : CDiv i j := h
theorem q_neD (hn : ¬ x = y) (hs : scal x y = true) (q : Q (.bl true) H) : rNeA K x y H Q := q_neY hs hn q
theorem q_cmpY {f : Int → Int → Prop} [∀ i j, Decidable (f i j)] {i j : Int} (h : f i j) (q : Q (.bl true) H) : rI0 (fun i j => .bl (decide (f i j))) (.int i) (.int j) H Q :=
  ⟨i, j, rfl, rfl, by show Q (V.bl (decide (f i j))) H; rw [decide_eq_true h]; exact q⟩
theorem q_cmpN {f : Int → Int → Prop} [∀ i j, Decidable (f i j)] {i j : Int} (h : ¬ f i j) (q : Q (.bl false) H) : rI0 (fun i j => .bl (decide (f i j))) (.int i) (.int j) H Q :=
  ⟨i, j, rfl, rfl, by show Q (V.bl (decide (f i j))) H; rw [decide_eq_false h]; exact q⟩
theorem q_isNY (he : x = .non) (q : Q (.bl true) H) : rIsN x .non H Q := ⟨rfl, by rw [decide_eq_true he]; exact q⟩
theorem q_isNN (he : ¬ x = .non) (q : Q (.bl false) H) : rIsN x .non H Q := ⟨rfl, by rw [decide_eq_false he]; exact q⟩
theorem q_notNY (he : x = .non) (q : Q (.bl false) H) : rNotN x .non H Q := ⟨rfl, by rw [decide_eq_true he]; exact q⟩
theorem q_notNN (he : ¬ x = .non) (q : Q (.bl true) H) : rNotN x .non H Q := ⟨rfl, by rw [decide_eq_false he]; exact q⟩
theorem q_lenL {p : Addr} {xs : List V} (h : SqL K H p xs) (q : Q (.int xs.length) H) : rLenA K [.ref p] H Q := .inl ⟨p, xs, rfl, .inl h, q⟩
theorem q_lenT {p : Addr} {xs : List V} (h : SqT K H p xs) (q : Q (.int xs.length) H) : rLenA K [.ref p] H Q := .inl ⟨p, xs, rfl, .inr h, q⟩
theorem q_sl1T {p : Addr} {xs : List V} (h : SqT K H p (x :: xs)) (q : ∀ p Hn, H p = none → Ex H Hn → Hn p = some (.tup xs) → Q (.ref p) Hn) : rSlA K (.ref p) (some 1) none H Q :=
  .inr ⟨p, x :: xs, rfl, h, fun z => by
    have e : HT.sIx (x :: xs).length 0 (some 1) = min 1 (x :: xs).length := HT.sIx_nat _ 0 1
    have z1 := z.1
    rw [e, List.length_cons] at z1
    omega, fun p hp => q p _ hp (Ex.mk hp rfl) (by rw [upd_same, cut1]; rfl)⟩
theorem q_sl1L {p : Addr} {xs : List V} (h : SqL K H p (x :: xs)) (q : ∀ p Hn, H p = none → Ex H Hn → Hn p = some (.lst xs) → Q (.ref p) Hn) : rSlA K (.ref p) (some 1) none H Q :=
  .inl ⟨p, x :: xs, rfl, h, fun p hp => q p _ hp (Ex.mk hp rfl) (by rw [upd_same, cut1]; rfl)⟩
theorem q_inT {p : Addr} {xs : List V} (h : SqT K H p xs) (hx : flatV x = true) (ha : xs.all flatV = true) (q : Q (.bl (inV x xs)) H) : rIn K false x (.ref p) H Q := ⟨p, xs, rfl, .inr h, hx, ha, q⟩
theorem q_inTY {p : Addr} {xs : List V} (h : SqT K H p xs) (hx : (flatV x && xs.all flatV && inV x xs) = true) (q : Q (.bl true) H) : rIn K false x (.ref p) H Q := by
  simp only [Bool.and_eq_true] at hx
  exact ⟨p, xs, rfl, .inr h, hx.1.1, hx.1.2, by rw [if_neg Bool.false_ne_true, hx.2]; exact q⟩
theorem q_inTN {p : Addr} {xs : List V} (h : SqT K H p xs) (hx : (flatV x && xs.all flatV && !inV x xs) = true) (q : Q (.bl false) H) : rIn K false x (.ref p) H Q := by
  simp only [Bool.and_eq_true, Bool.not_eq_true'] at hx
  exact ⟨p, xs, rfl, .inr h, hx.1.1, hx.1.2, by rw [if_neg Bool.false_ne_true, hx.2]; exact q⟩
theorem q_inLY {p : Addr} {xs : List V} (h : SqL K H p xs) (hx : (flatV x && xs.all flatV && inV x xs) = true) (q : Q (.bl true) H) : rIn K false x (.ref p) H Q := by
  simp only [Bool.and_eq_true] at hx
  exact ⟨p, xs, rfl, .inl h, hx.1.1, hx.1.2, by rw [if_neg Bool.false_ne_true, hx.2]; exact q⟩
theorem q_inLN {p : Addr} {xs : List V} (h : SqL K H p xs) (hx : (flatV x && xs.all flatV && !inV x xs) = true) (q : Q (.bl false) H) : rIn K false x (.ref p) H Q := by
  simp only [Bool.and_eq_true, Bool.not_eq_true'] at hx
  exact ⟨p, xs, rfl, .inl h, hx.1.1, hx.1.2, by rw [if_neg Bool.false_ne_true, hx.2]; exact q⟩
theorem q_isi {t : Value} {T : String} {b : Bool} (ty : TyOf K H x t) (e : PySem.W.kitOne K t (.type T) = some b) (q : Q (.bl b) H) : rIsi K [x, .ty T] H Q := ⟨x, .ty T, t, .type T, b, rfl, .ty T, .base ty, e, q⟩
theorem q_isiBI {i : Int} (q : Q (.bl false) H) : rIsi K [.int i, .ty "bool"] H Q := q_isi (.int i) (kit_ty (by decide +kernel)) q
theorem q_isiBN (q : Q (.bl false) H) : rIsi K [.non, .ty "bool"] H Q := q_isi .non (kit_ty (by decide +kernel)) q
def dispK (Q : VK) (p : Addr) (ps : List (V × V)) (H : Hp) : Prop := H p = some (.dK []) ∧ ∃ kvs : List (Key × V), ps = kvs.map (fun kv => (kV kv.1, kv.2)) ∧ kvs.length ≤ 15 ∧ Q (.ref p) (upd H p (.dK (mergeK [] kvs)))
theorem r_disp {trs : List (TE × TE)} (q : ∀ p Hn, H p = none → Ex H Hn → Hn p = some (.dK []) → tPairs trs σ Hn fun ps H2 => dispK Q p ps H2) : tDisp trs σ H Q := fun p hp => q p _ hp (Ex.mk hp rfl) upd_same
theorem r_pnil {QP : List (V × V) → Hp → Prop} (q : QP [] H) : tPairs [] σ H QP := q
theorem r_pcons {QP : List (V × V) → Hp → Prop} {tk tv : TE} {r : List (TE × TE)} (q : tk σ H fun x H1 => tv σ H1 fun y H2 => tPairs r σ H2 fun ps H3 => QP ((x, y) :: ps) H3) : tPairs ((tk, tv) :: r) σ H QP := q
theorem merge_nd {kvs : List (Key × V)} (h : (kvs.map (·.1)).Nodup) : mergeK [] kvs = kvs := by
  have key : ∀ (more acc : List (Key × V)), ((acc ++ more).map (·.1)).Nodup → mergeK acc more = acc ++ more := by
    intro more
    induction more with
    | nil => intro acc _; rw [List.append_nil]; rfl
    | cons p r ih =>
      intro acc h
      have hp : valV acc p.1 = none := by
        cases hv : valV acc p.1 with
        | none => rfl
        | some x =>
          exfalso
          have hm := valV_in hv
          rw [List.map_append, List.nodup_append] at h
          exact h.2.2 _ hm _ (by simp) rfl
      show mergeK (putK acc p.1 p.2) r = acc ++ p :: r
      rw [putK_new _ hp, ih _ (by rw [List.append_assoc]; exact h), List.append_assoc]
      rfl
  exact key kvs [] h
theorem q_disp {p : Addr} {ps : List (V × V)} (kvs : List (Key × V)) (h : H p = some (.dK [])) (e : ps = kvs.map (fun kv => (kV kv.1, kv.2))) (nd : (kvs.map (·.1)).Nodup) (hl : kvs.length ≤ 15)
    (q : ∀ Hn, Kp [p] H Hn → Hn p = some (.dK kvs) → Q (.ref p) Hn) : dispK Q p ps H := ⟨h, kvs, e, hl, by
  rw [merge_nd nd]
  exact q _ (Kp.set (List.mem_singleton.mpr rfl) (fun xs z => by rw [h] at z; cases z) rfl) upd_same⟩
theorem q_inL {p : Addr} {xs : List V} (h : SqL K H p xs) (hx : flatV x = true) (ha : xs.all flatV = true) (q : Q (.bl (inV x xs)) H) : rIn K false x (.ref p) H Q := ⟨p, xs, rfl, .inl h, hx, ha, q⟩
theorem r_iL {tl : TE} {R : It → Hp → Prop} (q : tl σ H fun x H1 => ∃ a, x = .ref a ∧ (∃ xs, SqL K H1 a xs) ∧ R (Itl K a) H1) : iList K tl σ H R := q
theorem q_iL {a : Addr} {xs : List V} {B : Addr → Prop} (h : SqL K H a xs) (q : B a) : ∃ b, V.ref a = .ref b ∧ (∃ xs, SqL K H b xs) ∧ B b := ⟨a, rfl, ⟨xs, h⟩, q⟩
theorem r_iT {tl : TE} {R : It → Hp → Prop} (q : tl σ H fun x H1 => ∃ a, x = .ref a ∧ (∃ xs, SqT K H1 a xs) ∧ R (Itt K a) H1) : iTup K tl σ H R := q
theorem q_iT {a : Addr} {xs : List V} {B : Addr → Prop} (h : SqT K H a xs) (q : B a) : ∃ b, V.ref a = .ref b ∧ (∃ xs, SqT K H b xs) ∧ B b := ⟨a, rfl, ⟨xs, h⟩, q⟩
theorem r_rng1 {R : It → Hp → Prop} (q : tr σ H fun vs H1 => ∃ j : Int, vs = [.int j] ∧ -(2 ^ 62) ≤ j ∧ j < 2 ^ 62 ∧ R (Itr 0 j.toNat) H1) : iRng1 tr σ H R := q
theorem q_rng1 {j : Int} {B : Int → Prop} (h : 0 ≤ j ∧ j ≤ 1000000) (q : B j) : ∃ i : Int, [V.int j] = [.int i] ∧ -(2 ^ 62) ≤ i ∧ i < 2 ^ 62 ∧ B i := ⟨j, rfl, by omega, by omega, q⟩
theorem r_rng2 {R : It → Hp → Prop} (q : tr σ H fun vs H1 => ∃ i j : Int, vs = [.int i, .int j] ∧ (-(2 ^ 62) ≤ i ∧ i < 2 ^ 62 ∧ -(2 ^ 62) ≤ j ∧ j < 2 ^ 62) ∧ R (Itr i (j - i).toNat) H1) : iRng2 tr σ H R := q
theorem q_rng2 {i j : Int} {B : Int → Int → Prop} (h : 0 ≤ i ∧ i ≤ 1000000 ∧ 0 ≤ j ∧ j ≤ 1000000) (q : B i j) : ∃ a b : Int, [V.int i, V.int j] = [.int a, .int b] ∧ (-(2 ^ 62) ≤ a ∧ a < 2 ^ 62 ∧ -(2 ^ 62) ≤ b ∧ b < 2 ^ 62) ∧ B a b :=
  ⟨i, j, rfl, ⟨by omega, by omega, by omega, by omega⟩, q⟩
theorem r_lc {wi : TI} {vs : List Nat} (q : wi σ H fun J H1 => ∀ D, H1 D = none → ∃ W : Nat → Nat → Hp → Prop, (∃ m, W 0 m (upd H1 D (.lst []))) ∧ ∀ i m H, W i m H →
  (J.stop i H ∧ Q (.ref D) H) ∨ (J.go i H ∧ ∃ Nx : Hp → Prop, (∀ H', Nx H' → ∃ m', m' < m ∧ W (i + 1) m' H') ∧ ∀ x H', J.yld i H x H' → g x (wipe σ vs) H' fun σ2 H2 => wipe σ2 vs = wipe σ vs ∧ t σ2 H2 fun b H3 =>
    if b = true then te σ2 H3 fun y H4 => ∃ acc, H4 D = some (.lst acc) ∧ acc.length < sizeLine ∧ Nx (upd H4 D (.lst (acc ++ [y]))) else Nx H3)) : tLc wi g t te vs σ H Q := q
theorem r_yes (q : QT true H) : tYes σ H QT := q
theorem r_for {wi : TI} (q : wi σ H fun J H1 => ∃ W : Nat → Nat → L2.St → Hp → Prop, (∃ m, W 0 m σ H1) ∧ ∀ i m σ H, W i m σ H →
  (J.stop i H ∧ nx σ H) ∨ (J.go i H ∧ ∃ N : L2.St → Hp → Prop, (∀ σ' H', N σ' H' → ∃ m', m' < m ∧ W (i + 1) m' σ' H') ∧ ∀ x H', J.yld i H x H' → g x σ H' fun σ2 H2 => ts ⟨N, rt, nx, N⟩ σ2 H2)) : tFor wi g ts ⟨nx, rt, bk, ct⟩ σ H := q
/-- the loops' words -/
theorem w_list {a : Addr} {xs : List V} (Pv : Nat → L2.St → Hp → Prop) (h0 : Pv 0 σ H) (hl : ∀ i σ H, i ≤ xs.length → Pv i σ H → SqL K H a xs)
    (hs : ∀ i x σ H, xs[i]? = some x → Pv i σ H → g x σ H fun σ2 H2 => ts ⟨Pv (i + 1), rt, nx, Pv (i + 1)⟩ σ2 H2) (hd : ∀ σ H, Pv xs.length σ H → nx σ H) :
    ∃ W : Nat → Nat → L2.St → Hp → Prop, (∃ m, W 0 m σ H) ∧ ∀ i m σ H, W i m σ H →
      ((Itl K a).stop i H ∧ nx σ H) ∨ ((Itl K a).go i H ∧ ∃ N : L2.St → Hp → Prop, (∀ σ' H', N σ' H' → ∃ m', m' < m ∧ W (i + 1) m' σ' H') ∧ ∀ x H', (Itl K a).yld i H x H' → g x σ H' fun σ2 H2 => ts ⟨N, rt, nx, N⟩ σ2 H2) :=
  for_list (D := ⟨nx, rt, nx, nx⟩) Pv h0 hl hs hd
theorem w_tup {a : Addr} {xs : List V} (Pv : Nat → L2.St → Hp → Prop) (h0 : Pv 0 σ H) (hl : ∀ i σ H, i ≤ xs.length → Pv i σ H → SqT K H a xs)
    (hs : ∀ i x σ H, xs[i]? = some x → Pv i σ H → g x σ H fun σ2 H2 => ts ⟨Pv (i + 1), rt, nx, Pv (i + 1)⟩ σ2 H2) (hd : ∀ σ H, Pv xs.length σ H → nx σ H) :
    ∃ W : Nat → Nat → L2.St → Hp → Prop, (∃ m, W 0 m σ H) ∧ ∀ i m σ H, W i m σ H →
      ((Itt K a).stop i H ∧ nx σ H) ∨ ((Itt K a).go i H ∧ ∃ N : L2.St → Hp → Prop, (∀ σ' H', N σ' H' → ∃ m', m' < m ∧ W (i + 1) m' σ' H') ∧ ∀ x H', (Itt K a).yld i H x H' → g x σ H' fun σ2 H2 => ts ⟨N, rt, nx, N⟩ σ2 H2) :=
  for_tup (D := ⟨nx, rt, nx, nx⟩) Pv h0 hl hs hd
theorem w_rng {lo : Int} {n : Nat} (Pv : Nat → L2.St → Hp → Prop) (h0 : Pv 0 σ H)
    (hs : ∀ i σ H, i < n → Pv i σ H → g (.int (lo + i)) σ H fun σ2 H2 => ts ⟨Pv (i + 1), rt, nx, Pv (i + 1)⟩ σ2 H2) (hd : ∀ σ H, Pv n σ H → nx σ H) :
    ∃ W : Nat → Nat → L2.St → Hp → Prop, (∃ m, W 0 m σ H) ∧ ∀ i m σ H, W i m σ H →
      ((Itr lo n).stop i H ∧ nx σ H) ∨ ((Itr lo n).go i H ∧ ∃ N : L2.St → Hp → Prop, (∀ σ' H', N σ' H' → ∃ m', m' < m ∧ W (i + 1) m' σ' H') ∧ ∀ x H', (Itr lo n).yld i H x H' → g x σ H' fun σ2 H2 => ts ⟨N, rt, nx, N⟩ σ2 H2) :=
  for_range (D := ⟨nx, rt, nx, nx⟩) Pv h0 hs hd
theorem r_iS {tl : TE} {R : It → Hp → Prop} (q : tl σ H fun v H1 => ∃ x, v = .str x ∧ R (Its x) H1) : iStr tl σ H R := q
theorem q_iS {z : Str} {B : Str → Prop} (q : B z) : ∃ x, V.str z = .str x ∧ B x := ⟨z, rfl, q⟩
theorem w_str {x : Str} (Pv : Nat → L2.St → Hp → Prop) (h0 : Pv 0 σ H)
    (hs : ∀ i c σ H, x.cps.toList[i]? = some c → Pv i σ H → g (.str ⟨#[c]⟩) σ H fun σ2 H2 => ts ⟨Pv (i + 1), rt, nx, Pv (i + 1)⟩ σ2 H2) (hd : ∀ σ H, Pv x.cps.toList.length σ H → nx σ H) :
    ∃ W : Nat → Nat → L2.St → Hp → Prop, (∃ m, W 0 m σ H) ∧ ∀ i m σ H, W i m σ H →
      ((Its x).stop i H ∧ nx σ H) ∨ ((Its x).go i H ∧ ∃ N : L2.St → Hp → Prop, (∀ σ' H', N σ' H' → ∃ m', m' < m ∧ W (i + 1) m' σ' H') ∧ ∀ v H', (Its x).yld i H v H' → g v σ H' fun σ2 H2 => ts ⟨N, rt, nx, N⟩ σ2 H2) := by
  have hz : x.cps.toList.length = x.cps.size := Array.length_toList
  refine ⟨fun i m σ H => m = x.cps.size - i ∧ i ≤ x.cps.size ∧ Pv i σ H, ⟨x.cps.size, by simp, Nat.zero_le _, h0⟩, ?_⟩
  rintro i m σ H ⟨rfl, hi, p⟩
  by_cases hlt : i < x.cps.size
  · refine .inr ⟨hlt, Pv (i + 1), fun σ' H' p' => ⟨x.cps.size - (i + 1), by omega, rfl, hlt, p'⟩, fun v H' y => ?_⟩
    obtain ⟨e, c, hc, ev⟩ := y
    subst e
    subst ev
    exact hs i c _ _ (by rw [Array.getElem?_toList]; exact hc) p
  · have e : i = x.cps.toList.length := by omega
    subst e
    exact .inl ⟨by show x.cps.size ≤ _; omega, hd _ _ p⟩
theorem w_while (W : Nat → L2.St → Hp → Prop) (m0 : Nat) (h0 : W m0 σ H)
    (hs : ∀ m σ' H', W m σ' H' → c σ' H' fun b H1 => if b = true then ts ⟨fun σ2 H2 => ∃ m', m' < m ∧ W m' σ2 H2, rt, nx, fun σ2 H2 => ∃ m', m' < m ∧ W m' σ2 H2⟩ σ' H1 else nx σ' H1)
    (mono : ∀ σ H Q Q', (∀ b H1, Q b H1 → Q' b H1) → c σ H Q → c σ H Q') : tWhile c ts ⟨nx, rt, bk, ct⟩ σ H := by
  refine ⟨W, ⟨m0, h0⟩, fun m σ' H' hw => mono σ' H' _ _ (fun b H1 q => ?_) (hs m σ' H' hw)⟩
  cases b with
  | true => exact ⟨_, fun _ _ n => n, q⟩
  | false => exact q
theorem q_setL {p : Addr} {xs : List V} {k : Int} {j : Nat} {QH : Hp → Prop} (h : H p = some (.lst xs)) (hj : ixN xs.length k = some j) (q : QH (upd H p (.lst (xs.set j v)))) : rSetL (.ref p) (.int k) v H QH := ⟨p, xs, k, j, rfl, rfl, h, hj, q⟩
theorem q_append {l : Addr} {xs : List V} (h : H l = some (.lst xs)) (hz : xs.length < 100000) (q : Q .non (upd H l (.lst (xs ++ [y])))) : rAppend (.ref l) [y] H Q := ⟨l, xs, y, rfl, rfl, h, sl1000' hz, q⟩
theorem q_pop0 {l : Addr} {xs : List V} (h : H l = some (.lst (x :: xs))) (q : Q x (upd H l (.lst xs))) : rPopAt (.ref l) [.int 0] H Q := ⟨l, x :: xs, 0, 0, x, rfl, rfl, h, by decide, by decide, by simp [seqIndex?], rfl, q⟩
theorem q_abs {i : Int} (q : Q (.int (if i < 0 then -i else i)) H) : rAbs [.int i] H Q := ⟨i, rfl, q⟩
theorem q_int {i : Int} (q : Q (.int i) H) : rInt [.int i] H Q := .inl ⟨i, rfl, q⟩
theorem q_intT (q : Q (.int 1) H) : rInt [.bl true] H Q := .inr ⟨true, rfl, q⟩
theorem q_intF (q : Q (.int 0) H) : rInt [.bl false] H Q := .inr ⟨false, rfl, q⟩
theorem q_intNT (q : Q (.int 1) H) : rInt [.bl (!false)] H Q := .inr ⟨true, rfl, q⟩
theorem q_intNF (q : Q (.int 0) H) : rInt [.bl (!true)] H Q := .inr ⟨false, rfl, q⟩
theorem iteNT {A B : Prop} (h : A) : if (!false) = true then A else B := by simpa using h
theorem iteNF {A B : Prop} (h : B) : if (!true) = true then A else B := by simpa using h
theorem q_listL {p : Addr} {ys : List V} (h : SqL K H p ys) (q : ∀ p Hn, H p = none → Ex H Hn → Hn p = some (.lst ys) → Q (.ref p) Hn) : rListOf K [.ref p] H Q := ⟨p, ys, rfl, .inl h, fun p hp => q p _ hp (Ex.mk hp rfl) upd_same⟩
theorem q_listT {p : Addr} {ys : List V} (h : SqT K H p ys) (q : ∀ p Hn, H p = none → Ex H Hn → Hn p = some (.lst ys) → Q (.ref p) Hn) : rListOf K [.ref p] H Q := ⟨p, ys, rfl, .inr h, fun p hp => q p _ hp (Ex.mk hp rfl) upd_same⟩
end

/-! ### tests that hand on more where more is wished (for while) -/
section
variable {K : PySem.W.Frag}
def MoE (t : TE) : Prop := ∀ σ H (Q Q' : VK), (∀ v H1, Q v H1 → Q' v H1) → t σ H Q → t σ H Q'
def MoT (t : TT) : Prop := ∀ σ H (Q Q' : Bool → Hp → Prop), (∀ v H1, Q v H1 → Q' v H1) → t σ H Q → t σ H Q'
def MoA (t : TA) : Prop := ∀ σ H (Q Q' : List V → Hp → Prop), (∀ v H1, Q v H1 → Q' v H1) → t σ H Q → t σ H Q'
def MoR (r : R2) : Prop := ∀ x y H (Q Q' : VK), (∀ v H1, Q v H1 → Q' v H1) → r x y H Q → r x y H Q'
def MoC (r : List V → Hp → VK → Prop) : Prop := ∀ x H (Q Q' : VK), (∀ v H1, Q v H1 → Q' v H1) → r x H Q → r x H Q'
theorem mo_var {i : Nat} : MoE (tVar i) := fun _ _ _ _ k ⟨v, h, q⟩ => ⟨v, h, k _ _ q⟩
theorem mo_c {v : V} : MoE (tC v) := fun _ _ _ _ k q => k _ _ q
theorem mo_op {r : R2} {a b : TE} (hr : MoR r) (ha : MoE a) (hb : MoE b) : MoE (tOp r a b) := fun σ H Q Q' k h => ha _ _ _ _ (fun x H1 q => hb _ _ _ _ (fun y H2 q => hr _ _ _ _ _ k q) q) h
theorem mo_test {a : TE} (ha : MoE a) : MoT (tTest a) := fun σ H Q Q' k h => ha _ _ _ _ (fun x H1 ⟨c, e, q⟩ => ⟨c, e, k _ _ q⟩) h
theorem mo_and {a b : TT} (ha : MoT a) (hb : MoT b) : MoT (tAnd a b) := fun σ H Q Q' k h => ha _ _ _ _ (fun c H1 q => by
  cases c
  · exact k _ _ q
  · exact hb _ _ _ _ k q) h
theorem mo_or {a b : TT} (ha : MoT a) (hb : MoT b) : MoT (tOr a b) := fun σ H Q Q' k h => ha _ _ _ _ (fun c H1 q => by
  cases c
  · exact hb _ _ _ _ k q
  · exact k _ _ q) h
theorem mo_not {a : TT} (ha : MoT a) : MoT (tNot a) := fun σ H Q Q' k h => ha _ _ _ _ (fun c H1 q => k _ _ q) h
theorem mo_nil : MoA tNil := fun _ _ _ _ k q => k _ _ q
theorem mo_cons {a : TE} {r : TA} (ha : MoE a) (hr : MoA r) : MoA (tCons a r) := fun σ H Q Q' k h => ha _ _ _ _ (fun x H1 q => hr _ _ _ _ (fun xs H2 q => k _ _ q) q) h
theorem mo_cb {r : List V → Hp → VK → Prop} {a : TA} (hr : MoC r) (ha : MoA a) : MoE (tCB r a) := fun σ H Q Q' k h => ha _ _ _ _ (fun x H1 q => hr _ _ _ _ k q) h
theorem mo_I0 {f : Int → Int → V} : MoR (rI0 f) := fun _ _ _ _ _ k ⟨i, j, a, b, q⟩ => ⟨i, j, a, b, k _ _ q⟩
theorem mo_I {C : Int → Int → Prop} {f : Int → Int → V} : MoR (rI C f) := fun _ _ _ _ _ k ⟨i, j, a, b, c, q⟩ => ⟨i, j, a, b, c, k _ _ q⟩
theorem mo_eqA : MoR (rEqA K) := fun _ _ _ _ _ k h => h.elim (fun ⟨a, q⟩ => .inl ⟨a, k _ _ q⟩) fun ⟨d, e, a, b, c, f, q⟩ => .inr ⟨d, e, a, b, c, f, k _ _ q⟩
theorem mo_neA : MoR (rNeA K) := fun _ _ _ _ _ k h => h.elim (fun ⟨a, q⟩ => .inl ⟨a, k _ _ q⟩) fun ⟨d, e, a, b, c, f, q⟩ => .inr ⟨d, e, a, b, c, f, k _ _ q⟩
theorem mo_ix : MoR (rIx K) := fun _ _ _ _ _ k h => by
  rcases h with ⟨p, xs, i, v, a, b, c, d, q⟩ | ⟨p, xs, i, v, a, b, c, d, q⟩ | ⟨z, i, c, a, b, d, e, q⟩
  · exact .inl ⟨p, xs, i, v, a, b, c, d, k _ _ q⟩
  · exact .inr (.inl ⟨p, xs, i, v, a, b, c, d, k _ _ q⟩)
  · exact .inr (.inr ⟨z, i, c, a, b, d, e, k _ _ q⟩)
theorem mo_lenA : MoC (rLenA K) := fun _ _ _ _ k h => by
  rcases h with ⟨p, ys, a, b, q⟩ | ⟨z, a, b, q⟩
  · exact .inl ⟨p, ys, a, b, k _ _ q⟩
  · exact .inr ⟨z, a, b, k _ _ q⟩
theorem ix0 {n : Nat} : ixN (n + 1) 0 = some 0 := by
  unfold ixN
  rw [if_pos (by decide), if_pos (by omega)]
  rfl
end
end Y
namespace Y
open PySem L2
def topS (i : Nat) : Stmt := PySem.Challenge.pw_placedanyhow_k36_code_of_expressions.main.body.getD i (.Pass ⟨0, 0, 0, 0⟩)
local macro_rules | `(tactic| walk_at "lift") => `(tactic| first
  | assumption
  | (refine at_ex (by assumption) ?_; walk_at "lift")
  | (refine tup_kp (by assumption) ?_; walk_at "lift")
  | (refine at_kp (by assumption) (by walk_at "nin") ?_; walk_at "lift"))
local macro_rules | `(tactic| walk_at "sq") => `(tactic| first
  | assumption
  | (refine sqt ?_; walk_at "lift")
  | (refine sql ?_; walk_at "lift"))
local macro_rules | `(tactic| walk_at "ar") => `(tactic| first
  | assumption
  | omega
  | (refine And.intro ?_ ?_ <;> omega)
  | (refine cdiv ⟨?_, ?_⟩ <;> omega)
  | (refine cmulL ⟨?_, ?_⟩ <;> omega)
  | (refine cmulR ⟨?_, ?_⟩ <;> omega)
  | decide)
set_option hygiene false in
local macro_rules | `(tactic| walk_at "i_disp") => `(tactic| intro dp Hn hdp ke hdn)
set_option hygiene false in
local macro_rules | `(tactic| walk_at "i_new") => `(tactic| intro p Hn hp ke hn)
local macro_rules | `(tactic| walk_at "len") => `(tactic| first | decide | (simp only [List.length_cons, List.length_nil, List.length_append, List.length_map]; omega))
local macro_rules | `(tactic| walk_at "new") => `(tactic| first
  | ((with_reducible refine q_newT ?h ?_); (case h => walk_at "len"); walk_at "i_new")
  | ((with_reducible refine q_newL ?h ?_); (case h => walk_at "len"); walk_at "i_new")
  | ((with_reducible refine q_sl1T (x := ?x) (xs := ?xs) ?h ?_); (case h => walk_at "sq"); walk_at "i_new")
  | ((with_reducible refine q_sl1L (x := ?x) (xs := ?xs) ?h ?_); (case h => walk_at "sq"); walk_at "i_new")
  | ((with_reducible refine q_listL (ys := ?ys) ?h ?_); (case h => walk_at "sq"); walk_at "i_new")
  | ((with_reducible refine q_listT (ys := ?ys) ?h ?_); (case h => walk_at "sq"); walk_at "i_new"))
local macro_rules | `(tactic| walk_at "arx") => `(tactic| first
  | omega
  | decide
  | (simp only [List.length_cons, List.length_nil, List.length_map]; omega))
set_option hygiene false in
local macro_rules | `(tactic| walk_at "q") => `(tactic| exact q)
local macro_rules | `(tactic| walk_at "st") => `(tactic| first
  | with_reducible refine r_seq ?_
  | with_reducible refine r_ifS ?_
  | with_reducible refine r_asg ?_
  | with_reducible refine r_ret ?_
  | with_reducible refine r_retN ?_
  | with_reducible refine r_next ?_
  | with_reducible refine r_drop ?_
  | ((with_reducible refine r_aug (v := ?v) ?h ?_); (case h => exact rfl))
  | with_reducible refine q_ip ?_
  | ((with_reducible refine r_var (v := ?v) ?h ?_); (case h => exact rfl))
  | with_reducible refine r_c ?_
  | with_reducible refine r_op ?_
  | with_reducible refine r_un ?_
  | with_reducible refine r_test ?_
  | with_reducible refine r_tB ?_
  | with_reducible refine q_exb ?_
  | with_reducible refine r_and ?_
  | with_reducible refine r_or ?_
  | with_reducible refine r_not ?_
  | with_reducible refine r_andV ?_
  | with_reducible refine r_orV ?_
  | with_reducible refine r_notV ?_
  | with_reducible refine r_ifE ?_
  | with_reducible refine iteT ?_
  | with_reducible refine iteF ?_
  | with_reducible refine iteNT ?_
  | with_reducible refine iteNF ?_
  | with_reducible refine q_intNT ?_
  | with_reducible refine q_intNF ?_
  | with_reducible refine r_cons ?_
  | with_reducible refine r_nil ?_
  | with_reducible refine r_cb ?_
  | with_reducible refine r_call ?_
  | with_reducible refine r_tup ?_
  | with_reducible refine r_lst ?_
  | with_reducible refine r_gname ?_
  | with_reducible refine r_gnil ?_
  | with_reducible refine r_gcons ?_
  | with_reducible refine r_gsub ?_
  | ((with_reducible refine r_gtup (xs := ?xs) ?h ?l ?_); (case h => walk_at "sq"); (case l => rfl))
  | with_reducible refine r_sl ?_
  | with_reducible refine r_part ?_
  | with_reducible refine r_nopart ?_
  | with_reducible refine q_part ?_
  | with_reducible refine r_dget ?_
  | ((with_reducible refine q_dget (kvs := ?kvs) (v := ?v) ?h ?l ?_); (case h => walk_at "lift"); (case l => first | assumption | rfl))
  | with_reducible refine r_bm ?_
  | with_reducible refine r_bm0 ?_
  | with_reducible refine q_addI ?_
  | ((with_reducible refine q_eqY ?s ?e ?_); (case e => first | exact rfl | decide +kernel); (case s => rfl))
  | ((with_reducible refine q_eqN ?s ?e ?_); (case e => decide +kernel); (case s => rfl))
  | ((with_reducible refine q_eqN ?s ?e ?_); (case e => walk_at "ne"); (case s => rfl))
  | (with_reducible refine q_eqI (fun c => ?_) (fun c => ?_))
  | (with_reducible refine q_eqS (fun c => ?_) (fun c => ?_))
  | ((with_reducible refine q_neY ?s ?e ?_); (case e => decide +kernel); (case s => rfl))
  | ((with_reducible refine q_neN ?s ?e ?_); (case e => first | exact rfl | decide +kernel); (case s => rfl))
  | (with_reducible refine q_neI (fun c => ?_) (fun c => ?_))
  | (with_reducible refine q_neS (fun c => ?_) (fun c => ?_))
  | ((with_reducible refine q_cmpY ?h ?_); (case h => walk_at "arx"))
  | ((with_reducible refine q_cmpN ?h ?_); (case h => walk_at "arx"))
  | (with_reducible refine q_cmp (fun c => ?_) (fun c => ?_))
  | ((with_reducible refine q_I ?c ?_); (case c => walk_at "ar"))
  | with_reducible refine q_I0 ?_
  | with_reducible refine q_U ?_
  | ((with_reducible refine q_ixT (xs := ?xs) (v := ?v) ?h ?a ?_); (case h => walk_at "sq"); (case a => exact rfl))
  | ((with_reducible refine q_lenL (xs := ?xs) ?h ?_); (case h => walk_at "sq"))
  | ((with_reducible refine q_lenT (xs := ?xs) ?h ?_); (case h => walk_at "sq"))
  | with_reducible refine q_isiBI ?_
  | with_reducible refine q_isiBN ?_
  | ((with_reducible refine q_inTY (xs := ?xs) ?h ?e ?_); (case h => walk_at "sq"); (case e => first | decide +kernel | rfl))
  | ((with_reducible refine q_inTN (xs := ?xs) ?h ?e ?_); (case h => walk_at "sq"); (case e => first | decide +kernel | rfl))
  | ((with_reducible refine q_inLY (xs := ?xs) ?h ?e ?_); (case h => walk_at "sq"); (case e => first | decide +kernel | rfl))
  | ((with_reducible refine q_inLN (xs := ?xs) ?h ?e ?_); (case h => walk_at "sq"); (case e => first | decide +kernel | rfl))
  | with_reducible refine q_int ?_
  | with_reducible refine q_intT ?_
  | with_reducible refine q_intF ?_
  | with_reducible refine q_abs ?_
  | with_reducible refine r_yes ?_
  | with_reducible refine r_lc ?_
  | (with_reducible refine r_disp ?_; walk_at "i_disp")
  | with_reducible refine r_pcons ?_
  | with_reducible refine r_pnil ?_
  | with_reducible refine r_for ?_
  | with_reducible refine r_iL ?_
  | with_reducible refine r_iT ?_
  | with_reducible refine r_iS ?_
  | with_reducible refine q_iS ?_
  | with_reducible refine r_rng1 ?_
  | with_reducible refine r_rng2 ?_
  | ((with_reducible refine q_iL (xs := ?xs) ?h ?_); (case h => walk_at "sq"))
  | ((with_reducible refine q_iT (xs := ?xs) ?h ?_); (case h => walk_at "sq"))
  | ((with_reducible refine q_rng1 ?h ?_); (case h => walk_at "ar"))
  | ((with_reducible refine q_rng2 ?h ?_); (case h => refine And.intro ?_ (And.intro ?_ (And.intro ?_ ?_)) <;> omega))
  | walk_at "q"
  | with_reducible refine q_isNY rfl ?_
  | ((with_reducible refine q_isNN ?h ?_); (case h => intro z; cases z))
  | with_reducible refine q_notNY rfl ?_
  | ((with_reducible refine q_notNN ?h ?_); (case h => intro z; cases z))
  | ((with_reducible refine q_ixL (xs := ?xs) (v := ?v) ?h ?a ?_); (case h => walk_at "sq"); (case a => first | exact rfl | exact at0 | assumption | walk_at "ax"))
  | walk_at "new"
  | walk_at "own"
  | fail)
local macro_rules | `(tactic| walk_at "own") => `(tactic| fail)
local macro_rules | `(tactic| walk_at "ne") => `(tactic| fail)
local macro_rules | `(tactic| walk_at "ax") => `(tactic| fail)
local macro_rules | `(tactic| walk_at "ex") => `(tactic| first
  | assumption
  | exact Ex.refl _
  | (refine Ex.trans ?_ (by assumption); walk_at "ex"))
structure Glo (K : PySem.W.Frag) (w : World) (mg : Str → Option Value) : Prop where
  n_len : mg "len" = none
  n_int : mg "int" = none
  n_abs : mg "abs" = none
  n_range : mg "range" = none
  n_list : mg "list" = none
  n_tuple : mg "tuple" = none
  n_dict : mg "dict" = none
  n_isinstance : mg "isinstance" = none
  c_WORDS : ∃ t, mg "WORDS" = some (.int 65536 t)
local macro_rules | `(tactic| walk_at "lev") => `(tactic| first | decide | omega)
variable {P : Program} {w : World} {K : PySem.W.Frag} {mg : Str → Option Value} {base : Heap}
/-! ### terms -/
inductive Op | add | sub | mul | div | mod | and | or | eq | ne | lt | le
  deriving DecidableEq
def Op.str : Op → Str
  | .add => "+" | .sub => "-" | .mul => "*" | .div => "/" | .mod => "mod" | .and => "and" | .or => "or" | .eq => "==" | .ne => "!=" | .lt => "<" | .le => "<="
def opStrs : List Str := ["+", "-", "*", "/", "mod", "and", "or", "==", "!=", "<", "<="]
theorem op_ne {o : Op} {z : Str} (h : (opStrs.all fun y => !decide (y = z)) = true) : ¬ V.str o.str = V.str z := by
  intro e
  have e' : o.str = z := V.str.inj e
  have m : o.str ∈ opStrs := by cases o <;> decide +kernel
  have := List.all_eq_true.mp h _ m
  rw [e'] at this
  simp at this
inductive Tm | num (n : Int) | cell (k : Int) | at (f s : Int) (e : Tm) | neg (e : Tm) | not (e : Tm) | bin (o : Op) (a b : Tm)
def Tm.In (H : Hp) : Tm → V → Prop
  | .num n, v => ∃ p, v = .ref p ∧ H p = some (.tup [.str "num", .int n])
  | .cell k, v => ∃ p, v = .ref p ∧ H p = some (.tup [.str "cell", .int k])
  | .at f s e, v => ∃ p x, v = .ref p ∧ H p = some (.tup [.str "at", .int f, .int s, x]) ∧ Tm.In H e x
  | .neg e, v => ∃ p x, v = .ref p ∧ H p = some (.tup [.str "neg", x]) ∧ Tm.In H e x
  | .not e, v => ∃ p x, v = .ref p ∧ H p = some (.tup [.str "not", x]) ∧ Tm.In H e x
  | .bin o a b, v => ∃ p x y, v = .ref p ∧ H p = some (.tup [.str o.str, x, y]) ∧ Tm.In H a x ∧ Tm.In H b y
theorem Tm.In.up {H H' : Hp} (k : ∀ p xs, H p = some (.tup xs) → H' p = some (.tup xs)) : ∀ {e : Tm} {v : V}, e.In H v → e.In H' v
  | .num _, _, ⟨p, h, a⟩ => ⟨p, h, k _ _ a⟩
  | .cell _, _, ⟨p, h, a⟩ => ⟨p, h, k _ _ a⟩
  | .at _ _ _, _, ⟨p, x, h, a, b⟩ => ⟨p, x, h, k _ _ a, Tm.In.up k b⟩
  | .neg _, _, ⟨p, x, h, a, b⟩ => ⟨p, x, h, k _ _ a, Tm.In.up k b⟩
  | .not _, _, ⟨p, x, h, a, b⟩ => ⟨p, x, h, k _ _ a, Tm.In.up k b⟩
  | .bin _ _ _, _, ⟨p, x, y, h, a, b, c⟩ => ⟨p, x, y, h, k _ _ a, Tm.In.up k b, Tm.In.up k c⟩
theorem tm_ex {H H' : Hp} {e : Tm} {v : V} (x : Ex H H') (h : e.In H v) : e.In H' v := h.up fun p xs q => x p _ q
theorem tm_kp {M : List Addr} {H H' : Hp} {e : Tm} {v : V} (x : Kp M H H') (h : e.In H v) : e.In H' v := h.up x.tup
def Tm.deep : Tm → Nat
  | .num _ => 1 | .cell _ => 1 | .at _ _ e => e.deep + 1 | .neg e => e.deep + 1 | .not e => e.deep + 1 | .bin _ a b => max a.deep b.deep + 1
theorem Tm.deep_pos : ∀ e : Tm, 0 < e.deep
  | .num _ => Nat.one_pos | .cell _ => Nat.one_pos | .at _ _ _ => Nat.succ_pos _ | .neg _ => Nat.succ_pos _ | .not _ => Nat.succ_pos _ | .bin _ _ _ => Nat.succ_pos _
/-- over n cells, with words as numbers -/
def Tm.ok (n : Int) : Tm → Prop
  | .num k => 0 ≤ k ∧ k < 65536
  | .cell k => 0 ≤ k ∧ k < n
  | .at f s e => 0 ≤ f ∧ 0 < s ∧ f + s ≤ n ∧ e.ok n
  | .neg e => e.ok n
  | .not e => e.ok n
  | .bin _ a b => a.ok n ∧ b.ok n
theorem Tm.ok.mono {n m : Int} (h : n ≤ m) : ∀ {e : Tm}, e.ok n → e.ok m
  | .num _, a => a
  | .cell _, a => ⟨a.1, by have := a.2; omega⟩
  | .at _ _ _, a => ⟨a.1, a.2.1, by have := a.2.2.1; omega, Tm.ok.mono h a.2.2.2⟩
  | .neg e, a => Tm.ok.mono (e := e) h a
  | .not e, a => Tm.ok.mono (e := e) h a
  | .bin _ _ _, a => ⟨Tm.ok.mono h a.1, Tm.ok.mono h a.2⟩
def hold : Op → Int → Int → Bool
  | .and, a, b => decide (a ≠ 0) && decide (b ≠ 0)
  | .or, a, b => decide (a ≠ 0) || decide (b ≠ 0)
  | .eq, a, b => decide (a = b)
  | .ne, a, b => decide (a ≠ b)
  | .lt, a, b => decide (a < b)
  | _, a, b => decide (a ≤ b)
def b2 (b : Bool) : Int := if b = true then 1 else 0
def calc2 : Op → Int → Int → Option Int
  | .add, a, b => some ((a + b) % 65536)
  | .sub, a, b => some ((a - b) % 65536)
  | .mul, a, b => some (a * b % 65536)
  | .div, a, b => if b = 0 then none else some (a / b)
  | .mod, a, b => if b = 0 then none else some (a % b)
  | o, a, b => some (b2 (hold o a b))
def ev (cs : List Int) : Tm → Option Int
  | .num n => some n
  | .cell k => some (cs.getD k.toNat 0)
  | .at f s e => match ev cs e with
    | none => none
    | some i => if s ≤ i then none else some (cs.getD (f + i).toNat 0)
  | .neg e => match ev cs e with
    | none => none
    | some i => some (-i % 65536)
  | .not e => match ev cs e with
    | none => none
    | some i => some (b2 (decide (i = 0)))
  | .bin o a b => match ev cs a, ev cs b with
    | some i, some j => calc2 o i j
    | _, _ => none
/-- the cell of a target -/
def wh (cs : List Int) : Tm → Option Int
  | .cell k => some k
  | .at f s e => match ev cs e with
    | none => none
    | some i => if s ≤ i then none else some (f + i)
  | _ => none
def optV : Option Int → V
  | none => .non
  | some i => .int i
def Words (cs : List Int) : Prop := ∀ c ∈ cs, 0 ≤ c ∧ c < 65536
theorem Words.get {cs : List Int} (h : Words cs) (k : Nat) : 0 ≤ cs.getD k 0 ∧ cs.getD k 0 < 65536 := by
  by_cases hk : k < cs.length
  · rw [List.getD_eq_getElem?_getD, List.getElem?_eq_getElem hk]
    exact h _ (List.getElem_mem hk)
  · rw [List.getD_eq_getElem?_getD, List.getElem?_eq_none (by omega)]
    exact ⟨by decide, by decide⟩
theorem b2_w (b : Bool) : 0 ≤ b2 b ∧ b2 b < 65536 := by cases b <;> exact ⟨by decide, by decide⟩
theorem calc2_w {o : Op} {a b x : Int} (ha : 0 ≤ a ∧ a < 65536) (hb : 0 ≤ b ∧ b < 65536) (h : calc2 o a b = some x) : 0 ≤ x ∧ x < 65536 := by
  have hd : b ≠ 0 → 0 ≤ a / b ∧ a / b < 65536 := fun n => by
    have h1 : 0 ≤ a / b := Int.ediv_nonneg ha.1 hb.1
    have h2 : a / b ≤ a := Int.ediv_le_self b ha.1
    omega
  have hm : b ≠ 0 → 0 ≤ a % b ∧ a % b < 65536 := fun n => by
    have h1 : 0 ≤ a % b := Int.emod_nonneg a n
    have h2 : a % b < b := Int.emod_lt_of_pos a (by omega)
    omega
  cases o <;> simp only [calc2] at h
  case div => split at h; · cases h
              · cases h; exact hd (by assumption)
  case mod => split at h; · cases h
              · cases h; exact hm (by assumption)
  case add => cases h; omega
  case sub => cases h; omega
  case mul => cases h; exact ⟨Int.emod_nonneg _ (by decide), Int.emod_lt_of_pos _ (by decide)⟩
  all_goals (cases h; exact b2_w _)
theorem ev_w {cs : List Int} (hw : Words cs) {n : Int} : ∀ {e : Tm} {x : Int}, e.ok n → ev cs e = some x → 0 ≤ x ∧ x < 65536
  | .num _, x, a, h => by cases h; exact a
  | .cell _, x, a, h => by cases h; exact hw.get _
  | .at f s e, x, a, h => by
    simp only [ev] at h
    split at h
    · cases h
    · split at h
      · cases h
      · cases h; exact hw.get _
  | .neg e, x, a, h => by
    simp only [ev] at h
    split at h
    · cases h
    · cases h; omega
  | .not e, x, a, h => by
    simp only [ev] at h
    split at h
    · cases h
    · cases h; exact b2_w _
  | .bin o e g, x, a, h => by
    simp only [ev] at h
    split at h
    · rename_i h1 h2
      exact calc2_w (ev_w hw a.1 h1) (ev_w hw a.2 h2) h
    · cases h
theorem atc {cs : List Int} {k : Int} (h0 : 0 ≤ k) (h1 : k < cs.length) : atI (cs.map V.int) k = some (.int (cs.getD k.toNat 0)) := by
  have hk : k.toNat < cs.length := by omega
  have e : k = ((k.toNat : Nat) : Int) := by omega
  have q : atI (cs.map V.int) ((k.toNat : Nat) : Int) = some (.int (cs.getD k.toNat 0)) := atI_nat (by rw [List.getElem?_map, List.getD_eq_getElem?_getD, List.getElem?_eq_getElem hk]; rfl)
  rw [← e] at q
  exact q
/-- targets -/
def Tm.tgt : Tm → Prop
  | .cell _ => True
  | .at _ _ _ => True
  | _ => False
theorem wh_ok {cs : List Int} (hw : Words cs) : ∀ {e : Tm} {k : Int}, e.ok cs.length → wh cs e = some k → 0 ≤ k ∧ k < cs.length
  | .num _, k, a, h => by cases h
  | .cell _, k, a, h => by cases h; exact a
  | .at f s e, k, a, h => by
    simp only [wh] at h
    split at h
    · cases h
    · rename_i i hi
      split at h
      · cases h
      · cases h
        have := ev_w hw a.2.2.2 hi
        have := a.1
        have := a.2.2.1
        omega
  | .neg _, k, a, h => by cases h
  | .not _, k, a, h => by cases h
  | .bin _ _ _, k, a, h => by cases h
theorem ev_wh {cs : List Int} : ∀ {e : Tm}, e.tgt → ev cs e = (wh cs e).map fun k => cs.getD k.toNat 0
  | .cell _, _ => rfl
  | .at f s e, _ => by
    simp only [ev, wh]
    split
    · rfl
    · split <;> rfl
local macro_rules | `(tactic| walk_at "ax") => `(tactic| (refine atc ?_ ?_ <;> omega))
/-! ### own classes -/
section
variable (P : Program) (w : World) (K : PySem.W.Frag) (mg : Str → Option Value) (base : Heap)
/-- a method as it stands behind the top -/
def DnM (C : Addr) (m q : Str) (st : Stmt) (ps : List Str) : Prop := ∃ f fd, Cls K C ∧ Meth K C m f ∧ Fun K m q st f fd ∧ Binds K fd ps []
/-- a class with its __init__ -/
def DnI (x q : Str) (C : Addr) (st : Stmt) (ps : List Str) : Prop := ∃ f fd, Mk K C f ∧ Fun K "__init__" q st f fd ∧ mg x = some (.ref C) ∧ Binds K fd ps []
def MetC (C : Addr) (m : Str) (k : Nat) (ps : List Str) (sp : Sp) : Prop := ∃ f fd, Cls K C ∧ Meth K C m f ∧ FnOk P w K mg base CX0 k f fd ps sp ∧ Binds K fd ps []
def MakC (x : Str) (C : Addr) (k : Nat) (ps : List Str) (sp : Sp) : Prop := ∃ f fd, Mk K C f ∧ FnOk P w K mg base CX0 k f fd ps sp ∧ mg x = some (.ref C) ∧ Binds K fd ps []
end
section
variable {P : Program} {w : World} {K : PySem.W.Frag} {mg : Str → Option Value} {base : Heap}
theorem DnM.ok {C : Addr} {m q : Str} {st : Stmt} {N ps : List Str} {k : Nat} {sp : Sp} (D : DnM K C m q st ps) (S : FnScope N ps (defScope st)) (len : ∀ vs H Q E, sp vs H Q E → vs.length = ps.length)
    (hbody : ∀ (f : Addr) (cdv : Value) (A : Around) (outer : List Env) (s : Shared) (H : Hp) (vs : List V) (Q : VK) (E : XK), Room k (A.deeper (PyProof.Rows.envOfC q (defScope st) s.heap.objs.size f cdv)) → sp vs H Q E →
      ∃ t, PSs (cxOf CX0 P w K mg base N q (defScope st) f cdv A outer s H E).nox (defBody st) t ∧ t { nx := fun _ H' => Q .non H', rt := Q } (start N vs) H) : MetC P w K mg base C m (k + 1) ps sp := by
  obtain ⟨f, fd, c, me, F, b⟩ := D
  exact ⟨f, fd, c, me, F.ok S len (hbody f), b⟩
theorem DnI.ok {x q : Str} {C : Addr} {st : Stmt} {N ps : List Str} {k : Nat} {sp : Sp} (D : DnI K mg x q C st ps) (S : FnScope N ps (defScope st)) (len : ∀ vs H Q E, sp vs H Q E → vs.length = ps.length)
    (hbody : ∀ (f : Addr) (cdv : Value) (A : Around) (outer : List Env) (s : Shared) (H : Hp) (vs : List V) (Q : VK) (E : XK), Room k (A.deeper (PyProof.Rows.envOfC q (defScope st) s.heap.objs.size f cdv)) → sp vs H Q E →
      ∃ t, PSs (cxOf CX0 P w K mg base N q (defScope st) f cdv A outer s H E).nox (defBody st) t ∧ t { nx := fun _ H' => Q .non H', rt := Q } (start N vs) H) : MakC P w K mg base x C (k + 1) ps sp := by
  obtain ⟨f, fd, mk, F, m, b⟩ := D
  exact ⟨f, fd, mk, F.ok S len (hbody f), m, b⟩
theorem pe_mtC {X : Cx} {C : Addr} {m : Str} {k : Nat} {ps : List Str} {sp : Sp} {o e : Expr} {es : List Expr} {ta : TE} {t : TA} {pos apos : Pos} {pl : Sem Bool} (G : MetC X.prog X.w X.K X.mg X.base C m k ps sp) (hr : Room k X.A) (he : PE X o ta) (ha : PA X (e :: es) t)
    (hst : starEach (e :: es) X.env = (false, eval e X.env) :: starEach es X.env := by rfl) (hpl : (backTo pos (starEach es X.env)).any (·.1) = false := by rfl)
    (ht : eval (.Call (.Attribute o m apos) (e :: es) [] pos) X.env = (do
      let ov ← eval o X.env
      standAt apos.atName
      let (f, first) ← holding [ov] (getMethod ov m pl)
      callWith pos f first (backTo pos (starEach (e :: es) X.env)) (backToKw pos (keywordEach [] X.env))) := by rfl) :
    PE X (.Call (.Attribute o m apos) (e :: es) [] pos) (tMeth C m sp [] E0 ta t) := by
  obtain ⟨f, fd, c, me, F, b⟩ := G
  exact pe_meth (pl := pl) he c me F hr b .nil pass0 ha hst hpl ht
theorem pe_mtC0 {X : Cx} {C : Addr} {m : Str} {k : Nat} {ps : List Str} {sp : Sp} {o : Expr} {ta : TE} {pos apos : Pos} {pl : Sem Bool} (G : MetC X.prog X.w X.K X.mg X.base C m k ps sp) (hr : Room k X.A) (he : PE X o ta)
    (ht : eval (.Call (.Attribute o m apos) [] [] pos) X.env = (do
      let ov ← eval o X.env
      standAt apos.atName
      let (f, first) ← holding [ov] (getMethod ov m pl)
      callWith pos f first (backTo pos (starEach [] X.env)) (backToKw pos (keywordEach [] X.env))) := by rfl) :
    PE X (.Call (.Attribute o m apos) [] [] pos) (tMeth C m sp [] E0 ta tNil) := by
  obtain ⟨f, fd, c, me, F, b⟩ := G
  exact pe_meth0 (pl := pl) he c me F hr b .nil pass0 ht
theorem pe_mkC {X : Cx} {x : Str} {C : Addr} {k : Nat} {ps : List Str} {sp : Sp} {e : Expr} {es : List Expr} {t : TA} {p pos : Pos} (G : MakC X.prog X.w X.K X.mg X.base x C k ps sp) (hr : Room (k + 1) X.A) (hg : Gl X x) (ha : PA X (e :: es) t)
    (hdb : (x == ("__debug__" : Str)) = false := by decide) (he : starEach (e :: es) X.env = (false, eval e X.env) :: starEach es X.env := by rfl) (hpl : (backTo pos (starEach es X.env)).any (·.1) = false := by rfl) : PE X (.Call (.Name x p) (e :: es) [] pos) (tMake C sp [] E0 t) := by
  obtain ⟨f, fd, mk, F, m, b⟩ := G
  exact pe_make mk F hr hg m b .nil pass0 ha hdb he hpl
end
section
variable {K : PySem.W.Frag} {σ : L2.St} {H : Hp} {Q : VK} {v x y : V} {te tb : TE} {tr : TA} {C : Addr} {f : Str} {nx bk ct : L2.St → Hp → Prop} {rt : VK}
def fldK (K : PySem.W.Frag) (f : Str) (Q : VK) (x : V) (H : Hp) : Prop := ∃ a C dx fs v, x = .ref a ∧ H a = some (.ins C dx fs) ∧ Cls K C ∧ NoAttr K C f ∧ fs.lookup f = some v ∧ Q v H
theorem r_fld (q : te σ H fun x H1 => fldK K f Q x H1) : tFld K te f σ H Q := q
theorem q_fld {a dx : Addr} {fs : List (Str × V)} (h : H a = some (.ins C dx fs)) (c : Cls K C) (n : NoAttr K C f) (l : fs.lookup f = some v) (q : Q v H) : fldK K f Q (.ref a) H := ⟨a, C, dx, fs, v, rfl, h, c, n, l, q⟩
def metK (C : Addr) (m : Str) (sp : Sp) (tr : TA) (σ : L2.St) (Q : VK) (x : V) (H : Hp) : Prop := ∃ a dx fs, x = .ref a ∧ H a = some (.ins C dx fs) ∧ fs.lookup m = none ∧ tr σ H fun vs H2 => sp (x :: (vs ++ [])) H2 Q E0
theorem r_meth {m : Str} {sp : Sp} (q : te σ H fun x H1 => metK C m sp tr σ Q x H1) : tMeth C m sp [] E0 te tr σ H Q := q
theorem q_meth {m : Str} {sp : Sp} {a dx : Addr} {fs : List (Str × V)} (h : H a = some (.ins C dx fs)) (l : fs.lookup m = none) (q : tr σ H fun vs H2 => sp (.ref a :: vs) H2 Q E0) : metK C m sp tr σ Q (.ref a) H := by
  refine ⟨a, dx, fs, rfl, h, l, ?_⟩
  have e : (fun (vs : List V) (H2 : Hp) => sp (.ref a :: (vs ++ [])) H2 Q E0) = fun vs H2 => sp (.ref a :: vs) H2 Q E0 := by
    funext vs H2
    rw [List.append_nil]
  rw [e]
  exact q
def sfldK (K : PySem.W.Frag) (f : Str) (N : Hp → Prop) (y x : V) (H : Hp) : Prop := ∃ a C dx fs, x = .ref a ∧ H a = some (.ins C dx fs) ∧ Cls K C ∧ NoAttr K C f ∧ fs.length < 1000 ∧ N (upd H a (.ins C dx (putF f y fs)))
theorem r_sfld (q : tb σ H fun y H1 => te σ H1 fun x H2 => sfldK K f (nx σ) y x H2) : sFld K te tb f ⟨nx, rt, bk, ct⟩ σ H := q
theorem q_sfld {N : Hp → Prop} {a dx : Addr} {fs fs' : List (Str × V)} (h : H a = some (.ins C dx fs)) (c : Cls K C) (n : NoAttr K C f) (l : fs.length < 1000) (e : putF f y fs = fs') (q : N (upd H a (.ins C dx fs'))) : sfldK K f N y (.ref a) H := ⟨a, C, dx, fs, rfl, h, c, n, l, by rw [e]; exact q⟩
def afldK (K : PySem.W.Frag) (f : Str) (tb : TE) (rd : V → V → Hp → VK → Prop) (nx : L2.St → Hp → Prop) (σ : L2.St) (x : V) (H1 : Hp) : Prop := ∃ a C dx fs v, x = .ref a ∧ H1 a = some (.ins C dx fs) ∧ Cls K C ∧ NoAttr K C f ∧ fs.lookup f = some v ∧
  tb σ H1 fun y H2 => rd v y H2 fun z H3 => ∃ dx' fs', H3 a = some (.ins C dx' fs') ∧ fs'.length < 1000 ∧ nx σ (upd H3 a (.ins C dx' (putF f z fs')))
theorem r_afld {rd : V → V → Hp → VK → Prop} (q : te σ H fun x H1 => afldK K f tb rd nx σ x H1) : sFldAug K te tb rd f ⟨nx, rt, bk, ct⟩ σ H := q
theorem q_afld {rd : V → V → Hp → VK → Prop} {a dx : Addr} {fs : List (Str × V)} (h : H a = some (.ins C dx fs)) (c : Cls K C) (n : NoAttr K C f) (l : fs.lookup f = some v)
    (q : tb σ H fun y H2 => rd v y H2 fun z H3 => ∃ dx' fs', H3 a = some (.ins C dx' fs') ∧ fs'.length < 1000 ∧ nx σ (upd H3 a (.ins C dx' (putF f z fs')))) : afldK K f tb rd nx σ (.ref a) H := ⟨a, C, dx, fs, v, rfl, h, c, n, l, q⟩
def makK (C : Addr) (sp : Sp) (Q : VK) (vs : List V) (H : Hp) : Prop := ∀ x dx, H x = none → H dx = none → dx ≠ x → sp (.ref x :: vs) (upd (upd H dx (.own x)) x (.ins C dx [])) (fun v H2 => v = .non ∧ Q (.ref x) H2) E0
theorem r_make {sp : Sp} (q : tr σ H fun vs H1 => makK C sp Q vs H1) : tMake C sp [] E0 tr σ H Q := by
  have e : (fun (vs : List V) (H1 : Hp) => ∀ x dx, H1 x = none → H1 dx = none → dx ≠ x → sp (.ref x :: (vs ++ [])) (upd (upd H1 dx (.own x)) x (.ins C dx [])) (fun v H2 => v = .non ∧ Q (.ref x) H2) E0) = fun vs H1 => makK C sp Q vs H1 := by
    funext vs H1
    rw [List.append_nil]
    rfl
  show tr σ H _
  rw [e]
  exact q
theorem q_addF {i j : Int} (q : Q (.int (i + j)) H) : rAdd (.int i) (.int j) H Q := ⟨i, j, rfl, rfl, q⟩
theorem lk_hd {r : List (Str × V)} : List.lookup f ((f, v) :: r) = some v := by simp [List.lookup]
theorem lk_tl {g : Str} {u : V} {r : List (Str × V)} (h : decide (f = g) = false) : List.lookup f ((g, u) :: r) = List.lookup f r := by
  have h' : ¬ f = g := of_decide_eq_false h
  have h2 : (f == g) = false := by simpa using h'
  simp [List.lookup, h2]
theorem lk_tl' {g : Str} {u : V} {r : List (Str × V)} {o : Option V} (h : decide (f = g) = false) (q : List.lookup f r = o) : List.lookup f ((g, u) :: r) = o := (lk_tl h).trans q
theorem put_nil : putF f v [] = [(f, v)] := rfl
theorem put_hd {u : V} {r : List (Str × V)} : putF f v ((f, u) :: r) = (f, v) :: r := by
  show (if f = f then _ else _) = _
  rw [if_pos rfl]
theorem put_tl {g : Str} {u : V} {r r' : List (Str × V)} (h : decide (g = f) = false) (q : putF f v r = r') : putF f v ((g, u) :: r) = (g, u) :: r' := by
  show (if g = f then _ else _) = _
  rw [if_neg (of_decide_eq_false h), q]
end
local macro_rules | `(tactic| walk_at "lk") => `(tactic| first
  | exact lk_hd
  | exact rfl
  | (refine lk_tl' (by decide +kernel) ?_; walk_at "lk"))
local macro_rules | `(tactic| walk_at "put") => `(tactic| first
  | exact put_nil
  | exact put_hd
  | (refine put_tl (by decide +kernel) ?_; walk_at "put"))
local macro_rules | `(tactic| walk_at "cls") => `(tactic| assumption)
local macro_rules | `(tactic| walk_at "own") => `(tactic| first
  | with_reducible refine r_fld ?_
  | with_reducible refine r_make ?_
  | ((with_reducible refine q_fld (C := ?C) (dx := ?dx) (fs := ?fs) (v := ?v) ?h ?c ?n ?l ?_); (case h => walk_at "lift"); (case c => walk_at "cls"); (case n => walk_at "cls"); (case l => walk_at "lk"))
  | with_reducible refine r_meth ?_
  | ((with_reducible refine q_meth (dx := ?dx) (fs := ?fs) ?h ?l ?_); (case h => walk_at "lift"); (case l => walk_at "lk"))
  | with_reducible refine r_sfld ?_
  | with_reducible refine r_afld ?_
  | ((with_reducible refine q_afld (C := ?C) (dx := ?dx) (fs := ?fs) (v := ?v) ?h ?c ?n ?l ?_); (case h => walk_at "lift"); (case c => walk_at "cls"); (case n => walk_at "cls"); (case l => walk_at "lk"))
  | with_reducible refine q_addF ?_)
abbrev s__law_state : Stmt := topS 46
theorem sc__law_state : FnScope ["script", "seed", "cell"] ["script"] (defScope s__law_state) := ⟨rfl, rfl, rfl, by decide +kernel, rfl, by decide +kernel, by decide +kernel⟩
abbrev p__law_state : List Str := ["script"]
abbrev s__law_draw : Stmt := topS 47
theorem sc__law_draw : FnScope ["state", "many", "cells", "mixed", "number"] ["state", "many"] (defScope s__law_draw) := ⟨rfl, rfl, rfl, by decide +kernel, rfl, by decide +kernel, by decide +kernel⟩
abbrev p__law_draw : List Str := ["state", "many"]
abbrev s__law_pick : Stmt := topS 48
theorem sc__law_pick : FnScope ["state", "row"] ["state", "row"] (defScope s__law_pick) := ⟨rfl, rfl, rfl, by decide +kernel, rfl, by decide +kernel, by decide +kernel⟩
abbrev p__law_pick : List Str := ["state", "row"]
/-! ### the draws' state -/
structure StOk (st c : Addr) (H : Hp) : Prop where
  ex : ∃ (ns : List Int) (s : Int), H st = some (.lst [.ref c, .int s]) ∧ H c = some (.lst (ns.map V.int)) ∧ (∀ n ∈ ns, 0 ≤ n) ∧ 0 ≤ s ∧ s < 2147483648
  ne : c ≠ st
theorem st_ex {st c : Addr} {H H' : Hp} (e : Ex H H') (h : StOk st c H) : StOk st c H' := by
  obtain ⟨⟨ns, s, a, b, d⟩, n⟩ := h
  exact ⟨⟨ns, s, e _ _ a, e _ _ b, d⟩, n⟩
/-- a fresh address is neither -/
theorem st_fresh {st c p : Addr} {H : Hp} (h : StOk st c H) (hp : H p = none) : p ∉ [st, c] := by
  obtain ⟨⟨ns, s, a, b, d⟩, n⟩ := h
  simp only [List.mem_cons, List.not_mem_nil, or_false, not_or]
  exact ⟨(ne_of_none a hp).symm, (ne_of_none b hp).symm⟩
/-! ### heaps, further: one object changed, the rest as it was -/
theorem q_tyLs {K : PySem.W.Frag} {H : Hp} {p : Addr} {xs : List V} {A : Prop} (h : SqL K H p xs) (q : A) : tyV K "list" (.ref p) H ∧ A := ⟨Or.inl ⟨rfl, xs, h⟩, q⟩
theorem kp_one {H : Hp} {p : Addr} {o o' : HO} (h : H p = some o) (n : ∀ xs, o ≠ .tup xs) : Kp [p] H (upd H p o') := Kp.set (List.mem_singleton.mpr rfl) (fun xs z => by rw [h] at z; exact n xs (Option.some.inj z)) rfl
theorem nin_c {b a : Addr} {M : List Addr} (h : b ≠ a) (t : b ∉ M) : b ∉ a :: M := fun z => by
  rcases List.mem_cons.mp z with z | z
  · exact h z
  · exact t z
theorem ne_nw {H : Hp} {a b : Addr} {o : HO} (h : H b = some o) (hp : H a = none) : b ≠ a := ne_of_none h hp
theorem ne_knd {H : Hp} {a b : Addr} {o u : HO} (h : H a = some o) (h' : H b = some u) (n : o ≠ u) : a ≠ b := ne_of h h' n
theorem kp_sub1 {H H' : Hp} {M N : List Addr} (k : Kp M H H') (s : ∀ x, x ∈ M → x ∈ N) : Kp N H H' := k.sub s
theorem sub_hd1 {D : Addr} {M : List Addr} : ∀ x, x ∈ [D] → x ∈ D :: M := fun x h => by rw [List.mem_singleton.mp h]; exact List.mem_cons_self ..
theorem kp_fresh {M N : List Addr} {H H1 H' : Hp} (k : Kp M H H1) (k2 : Kp N H1 H') (f : ∀ x, x ∈ N → x ∈ M ∨ H x = none) : Kp M H H' := ⟨fun a xs h => k2.tup _ _ (k.tup _ _ h), fun a o n h => k2.out _ _ (fun z => by
  rcases f a z with q | q
  · exact n q
  · rw [q] at h; cases h) (k.out _ _ n h)⟩
theorem fsome {H : Hp} {D : Addr} {o : HO} (h : H D = some o) : H D ≠ none := fun z => by rw [h] at z; cases z
section
variable {K : PySem.W.Frag} {σ : L2.St} {H : Hp} {Q : VK} {v x y : V} {te tb : TE} {tr : TA} {C : Addr} {f : Str} {nx bk ct : L2.St → Hp → Prop} {rt : VK}
theorem q_appN {l : Addr} {xs : List V} (h : H l = some (.lst xs)) (hz : xs.length < 100000) (q : ∀ Hn, Kp [l] H Hn → Hn l = some (.lst (xs ++ [y])) → Q .non Hn) : rAppend (.ref l) [y] H Q := q_append h hz (q _ (kp_one h (by intro _ z; cases z)) upd_same)
theorem q_sfldN {N : Hp → Prop} {a dx : Addr} {fs fs' : List (Str × V)} (h : H a = some (.ins C dx fs)) (c : Cls K C) (n : NoAttr K C f) (l : fs.length < 1000) (e : putF f y fs = fs') (q : ∀ Hn, Kp [a] H Hn → Hn a = some (.ins C dx fs') → N Hn) : sfldK K f N y (.ref a) H :=
  q_sfld h c n l e (q _ (kp_one h (by intro _ z; cases z)) upd_same)
theorem q_pop0N {l : Addr} {xs : List V} (h : H l = some (.lst (x :: xs))) (q : ∀ Hn, Kp [l] H Hn → Hn l = some (.lst xs) → Q x Hn) : rPopAt (.ref l) [.int 0] H Q := q_pop0 h (q _ (kp_one h (by intro _ z; cases z)) upd_same)
theorem q_setLN {p : Addr} {xs : List V} {k : Int} {j : Nat} {QH : Hp → Prop} (h : H p = some (.lst xs)) (hj : ixN xs.length k = some j) (q : ∀ Hn, Kp [p] H Hn → Hn p = some (.lst (xs.set j v)) → QH Hn) : rSetL (.ref p) (.int k) v H QH := q_setL h hj (q _ (kp_one h (by intro _ z; cases z)) upd_same)
theorem q_dgetI {p : Addr} {kvs : List (Key × V)} {n : Int} {B : V → Prop} (h : H p = some (.dK kvs)) (hl : valV kvs (Sum.inl n) = some v) (q : B v) : ∃ a v', V.ref p = .ref a ∧ DGet H a (.int n) (some v') ∧ B v' :=
  ⟨p, v, rfl, by rw [← hl]; exact DGet.k (k := Sum.inl n) h, q⟩
theorem f_dput {td ty tv : TE} (q : tv σ H fun v H1 => td σ H1 fun x H2 => ty σ H2 fun y H3 => ∃ a H4, x = .ref a ∧ DPut H3 a y v H4 ∧ nx σ H4) : sDPut td ty tv ⟨nx, rt, bk, ct⟩ σ H := q
theorem q_dputI {p : Addr} {kvs : List (Key × V)} {n : Int} {B : Hp → Prop} (h : H p = some (.dK kvs)) (hl : kvs.length ≤ 1000) (q : ∀ Hn, Kp [p] H Hn → Hn p = some (.dK (putK kvs (Sum.inl n) v)) → B Hn) : ∃ a H', V.ref p = .ref a ∧ DPut H a (.int n) v H' ∧ B H' :=
  ⟨p, _, rfl, DPut.k (k := Sum.inl n) h (sl1000' (by omega)), q _ (kp_one h (by intro _ z; cases z)) upd_same⟩
theorem q_dputS {p : Addr} {kvs : List (Key × V)} {z : Str} {B : Hp → Prop} (h : H p = some (.dK kvs)) (hl : kvs.length ≤ 1000) (q : ∀ Hn, Kp [p] H Hn → Hn p = some (.dK (putK kvs (Sum.inr z) v)) → B Hn) : ∃ a H', V.ref p = .ref a ∧ DPut H a (.str z) v H' ∧ B H' :=
  ⟨p, _, rfl, DPut.k (k := Sum.inr z) h (sl1000' (by omega)), q _ (kp_one h (by intro _ z; cases z)) upd_same⟩
theorem q_truC {B : Bool → Prop} {a : Addr} {xs : List V} (h : SqL K H a (x :: xs)) (q : B true) : ∃ k, TruV K (.ref a) H k ∧ B k := ⟨_, .inl ⟨_, h, rfl⟩, q⟩
theorem q_truN {B : Bool → Prop} {a : Addr} (h : SqL K H a []) (q : B false) : ∃ k, TruV K (.ref a) H k ∧ B k := ⟨_, .inl ⟨_, h, rfl⟩, q⟩
theorem f_truth {QT : Bool → Hp → Prop} (q : te σ H fun x H' => ∃ k, TruV K x H' k ∧ QT k H') : (fun σ H (Q : Bool → Hp → Prop) => te σ H fun x H' => ∃ k, TruV K x H' k ∧ Q k H') σ H QT := q
theorem q_isiL {p : Addr} {xs : List V} (h : H p = some (.lst xs)) (q : Q (.bl true) H) : rIsi K [.ref p, .ty "list"] H Q := q_isi (.lst h) (kit_ty (r := true) (by decide +kernel)) q
theorem q_isiTp {p : Addr} {xs : List V} (h : H p = some (.tup xs)) (q : Q (.bl true) H) : rIsi K [.ref p, .ty "tuple"] H Q := q_isi (.tup h) (kit_ty (r := true) (by decide +kernel)) q
theorem q_isiLT {p : Addr} {xs : List V} (h : H p = some (.tup xs)) (q : Q (.bl false) H) : rIsi K [.ref p, .ty "list"] H Q := q_isi (.tup h) (kit_ty (r := false) (by decide +kernel)) q
theorem q_isiBB {b : Bool} (q : Q (.bl true) H) : rIsi K [.bl b, .ty "bool"] H Q := q_isi (.bl b) (kit_ty (by decide +kernel)) q
end
local macro_rules | `(tactic| walk_at "nin") => `(tactic| first
  | assumption
  | exact List.not_mem_nil
  | (refine st_fresh (H := ?H) ?a ?b; (case b => assumption); (case a => walk_at "st_ok"))
  | (refine nin_c (by walk_at "ne1") ?_; walk_at "nin"))
local macro_rules | `(tactic| walk_at "ne1") => `(tactic| first
  | assumption
  | exact Ne.symm (by assumption)
  | (refine ne_nw (H := ?hh) (o := ?u) ?a ?b; (case b => assumption); (case a => walk_at "lift"))
  | (refine Ne.symm ?_; refine ne_nw (H := ?hh) (o := ?u) ?a ?b; (case b => assumption); (case a => walk_at "lift")))
local macro_rules | `(tactic| walk_at "putx") => `(tactic| first
  | exact put_nil
  | exact put_hd
  | (refine put_tl (r' := ?rr) ?hh ?qq; (case hh => decide +kernel); (case qq => walk_at "putx")))
local macro_rules | `(tactic| walk_at "len2") => `(tactic| first
  | decide
  | omega
  | exact of_decide_eq_true rfl
  | (simp only [List.length_cons, List.length_nil, List.length_append, List.length_map, List.length_take]; omega))
theorem r_dnewN {σ : L2.St} {H : Hp} {Q : VK} (q : ∀ p Hn, H p = none → Ex H Hn → Hn p = some (.dK []) → Q (.ref p) Hn) : tDNewK σ H Q := fun p hp => q p _ hp (Ex.mk hp rfl) upd_same
set_option hygiene false in
local macro_rules | `(tactic| walk_at "i_upd") => `(tactic| intro Hn ku hu)
local macro_rules | `(tactic| walk_at "own") => `(tactic| first
  | ((with_reducible refine q_tyLs (xs := ?xs) ?h ?_); (case h => walk_at "sq"))
  | ((with_reducible refine q_appN (xs := ?xs) ?h ?z ?_); (case h => walk_at "lift"); (case z => walk_at "len2"); walk_at "i_upd")
  | ((with_reducible refine q_setLN (xs := ?xs) (j := ?j) ?h ?e ?_); (case h => walk_at "lift"); (case e => first | exact rfl | exact ix0); walk_at "i_upd")
  | ((with_reducible refine q_pop0N (x := ?x) (xs := ?xs) ?h ?_); (case h => walk_at "lift"); walk_at "i_upd")
  | ((with_reducible refine q_sfldN (C := ?C) (dx := ?dx) (fs := ?fs) (fs' := ?fs') ?h ?c ?n ?l ?e ?_); (case h => walk_at "lift"); (case c => walk_at "cls"); (case n => walk_at "cls"); (case l => walk_at "len2"); (case e => walk_at "putx"); walk_at "i_upd")
  | with_reducible refine f_dput ?_
  | ((with_reducible refine q_rng1 ?h ?_); (case h => simp only [List.length_map]; omega))
  | (with_reducible refine r_dnewN ?_; walk_at "i_new")
  | ((with_reducible refine q_truC (x := ?x) (xs := ?xs) ?h ?_); (case h => walk_at "sq"))
  | ((with_reducible refine q_truN ?h ?_); (case h => walk_at "sq"))
  | ((with_reducible refine q_isiL (xs := ?xs) ?h ?_); (case h => walk_at "lift"))
  | ((with_reducible refine q_isiTp (xs := ?xs) ?h ?_); (case h => walk_at "lift"))
  | ((with_reducible refine q_isiLT (xs := ?xs) ?h ?_); (case h => walk_at "lift"))
  | with_reducible refine q_isiBB ?_)
/-! ### data of tuples -/
mutual
inductive Tp (H : Hp) : V → PyData → Prop
  | non : Tp H .non .none
  | bl (b : Bool) : Tp H (.bl b) (.bool b)
  | int (i : Int) : Tp H (.int i) (.int i)
  | str (x : Str) : Tp H (.str x) (.str x)
  | tup {a : Addr} {xs : List V} {ds : List PyData} : H a = some (.tup xs) → Tps H xs ds → Tp H (.ref a) (.tuple ds)
inductive Tps (H : Hp) : List V → List PyData → Prop
  | nil : Tps H [] []
  | cons {v : V} {vs : List V} {d : PyData} {ds : List PyData} : Tp H v d → Tps H vs ds → Tps H (v :: vs) (d :: ds)
end
mutual
theorem tp_kp {M : List Addr} {H H' : Hp} (k : Kp M H H') : ∀ {v : V} {d : PyData}, Tp H v d → Tp H' v d
  | _, _, .non => .non
  | _, _, .bl b => .bl b
  | _, _, .int i => .int i
  | _, _, .str x => .str x
  | _, _, .tup h t => .tup (k.tup _ _ h) (tps_kp k t)
theorem tps_kp {M : List Addr} {H H' : Hp} (k : Kp M H H') : ∀ {vs : List V} {ds : List PyData}, Tps H vs ds → Tps H' vs ds
  | _, _, .nil => .nil
  | _, _, .cons h t => .cons (tp_kp k h) (tps_kp k t)
end
theorem tp_ex {H H' : Hp} (k : Ex H H') {v : V} {d : PyData} (h : Tp H v d) : Tp H' v d := tp_kp (M := []) k.kp h
theorem tps_ex {H H' : Hp} (k : Ex H H') {v : List V} {d : List PyData} (h : Tps H v d) : Tps H' v d := tps_kp (M := []) k.kp h
mutual
theorem tp_dp {K : PySem.W.Frag} {H : Hp} : ∀ {v : V} {d : PyData}, Tp H v d → Dp K H v d
  | _, _, .non => .non
  | _, _, .bl b => .bl b
  | _, _, .int i => .int i
  | _, _, .str x => .str x
  | _, _, .tup h t => .tup (sqt h) (tps_dp t)
theorem tps_dp {K : PySem.W.Frag} {H : Hp} : ∀ {vs : List V} {ds : List PyData}, Tps H vs ds → DpAll K H vs ds
  | _, _, .nil => .nil
  | _, _, .cons h t => .cons (tp_dp h) (tps_dp t)
end
theorem tps_app {H : Hp} : ∀ {vs ws : List V} {ds es : List PyData}, Tps H vs ds → Tps H ws es → Tps H (vs ++ ws) (ds ++ es)
  | _, _, _, _, .nil, h => h
  | _, _, _, _, .cons a t, h => .cons a (tps_app t h)
theorem tps_len {H : Hp} : ∀ {vs : List V} {ds : List PyData}, Tps H vs ds → vs.length = ds.length
  | _, _, .nil => rfl
  | _, _, .cons _ t => by rw [List.length_cons, List.length_cons, tps_len t]
def fInts (ns : List Int) : List PyData := ns.map PyData.int
theorem tps_ints {H : Hp} : ∀ ns : List Int, Tps H (ns.map V.int) (fInts ns)
  | [] => .nil
  | n :: r => .cons (.int n) (tps_ints r)
theorem fints_dp {K : PySem.W.Frag} {H : Hp} : ∀ ns : List Int, DpAll K H (ns.map V.int) (fInts ns)
  | [] => .nil
  | n :: r => .cons (.int n) (fints_dp r)
theorem fints_lay : ∀ ns : List Int, PyData.canLayAll0 (fInts ns) = true
  | [] => by simp [fInts, PyData.canLayAll0]
  | c :: r => by
    have h := fints_lay r
    simp only [fInts] at h
    simp [fInts, PyData.canLayAll0, PyData.canLay0, h]
theorem fints_depth : ∀ ns : List Int, PyData.depthAll (fInts ns) = 0
  | [] => by simp [fInts, PyData.depthAll]
  | c :: r => by
    have h := fints_depth r
    simp only [fInts] at h
    simp [fInts, PyData.depthAll, PyData.depth, h]
theorem flay_map {α : Type} {f : α → PyData} : ∀ xs : List α, (∀ x ∈ xs, (f x).canLay0 = true) → PyData.canLayAll0 (xs.map f) = true
  | [], _ => by simp [PyData.canLayAll0]
  | c :: r, h => by simp [PyData.canLayAll0, h c (List.mem_cons_self ..), flay_map r fun x hx => h x (List.mem_cons_of_mem _ hx)]
theorem fdepth_map {α : Type} {f : α → PyData} {b : Nat} : ∀ xs : List α, (∀ x ∈ xs, (f x).depth ≤ b) → PyData.depthAll (xs.map f) ≤ b
  | [], _ => by simp [PyData.depthAll]
  | c :: r, h => by
    have h1 := h c (List.mem_cons_self ..)
    have h2 := fdepth_map r fun x hx => h x (List.mem_cons_of_mem _ hx)
    simp only [List.map_cons, PyData.depthAll]
    omega
theorem flist_shaped {ds : List PyData} (h1 : PyData.canLayAll0 ds = true) (h2 : PyData.depthAll ds ≤ 20) : SeqAt.shaped (.list ds) = true := by
  have h3 : PyData.depthAll ds + 1 ≤ 64 := by omega
  simp [SeqAt.shaped, PyData.canLay0, PyData.depth, h1, h3]
theorem fq_eqDat {K : PySem.W.Frag} {H : Hp} {Q : VK} {a b : V} {ds : List PyData} (h1 : Dp K H a (.list ds)) (h2 : Dp K H b (.list ds)) (l : PyData.canLayAll0 ds = true) (d : PyData.depthAll ds ≤ 20) (q : Q (.bl true) H) : rEqA K a b H Q :=
  .inr ⟨_, _, h1, h2, flist_shaped l d, flist_shaped l d, by rw [SeqAt.eqv_refl _ (by simp [PyData.canLay0, l])]; exact q⟩
theorem fq_neDat {K : PySem.W.Frag} {H : Hp} {Q : VK} {a b : V} {ds : List PyData} (h1 : Dp K H a (.list ds)) (h2 : Dp K H b (.list ds)) (l : PyData.canLayAll0 ds = true) (d : PyData.depthAll ds ≤ 20) (q : Q (.bl false) H) : rNeA K a b H Q :=
  .inr ⟨_, _, h1, h2, flist_shaped l d, flist_shaped l d, by rw [SeqAt.eqv_refl _ (by simp [PyData.canLay0, l])]; exact q⟩
theorem fq_neInts {K : PySem.W.Frag} {H : Hp} {Q : VK} {a b : Addr} {ns : List Int} (h1 : H a = some (.lst (ns.map V.int))) (h2 : H b = some (.lst (ns.map V.int))) (q : Q (.bl false) H) : rNeA K (.ref a) (.ref b) H Q :=
  fq_neDat (.lst (sql h1) (fints_dp ns)) (.lst (sql h2) (fints_dp ns)) (fints_lay ns) (by rw [fints_depth]; omega) q
theorem fq_eqInts {K : PySem.W.Frag} {H : Hp} {Q : VK} {a b : Addr} {ns : List Int} (h1 : H a = some (.lst (ns.map V.int))) (h2 : H b = some (.lst (ns.map V.int))) (q : Q (.bl true) H) : rEqA K (.ref a) (.ref b) H Q :=
  fq_eqDat (.lst (sql h1) (fints_dp ns)) (.lst (sql h2) (fints_dp ns)) (fints_lay ns) (by rw [fints_depth]; omega) q
local macro_rules | `(tactic| walk_at "tp") => `(tactic| first
  | assumption
  | exact Tp.int _
  | exact Tp.str _
  | exact Tp.non
  | exact Tp.bl _
  | (refine Tp.tup (xs := ?xs) ?h ?t; (case h => walk_at "lift"); (case t => walk_at "tps"))
  | (refine tp_ex (by assumption) ?_; walk_at "tp")
  | (refine tp_kp (by assumption) ?_; walk_at "tp"))
local macro_rules | `(tactic| walk_at "tps") => `(tactic| first
  | assumption
  | exact Tps.nil
  | (refine Tps.cons ?h ?t; (case h => walk_at "tp"); (case t => walk_at "tps"))
  | (refine tps_ex (by assumption) ?_; walk_at "tps")
  | (refine tps_kp (by assumption) ?_; walk_at "tps"))
/-! ### frames over several steps -/
theorem subf_n {M : List Addr} {H : Hp} : ∀ x, x ∈ ([] : List Addr) → x ∈ M ∨ H x = none := fun _ h => absurd h List.not_mem_nil
theorem subf_c {M N : List Addr} {H : Hp} {a : Addr} (h : a ∈ M ∨ H a = none) (t : ∀ x, x ∈ N → x ∈ M ∨ H x = none) : ∀ x, x ∈ a :: N → x ∈ M ∨ H x = none := fun x hx => by
  rcases List.mem_cons.mp hx with rfl | hx
  · exact h
  · exact t x hx
theorem ex_of_kp {H H' : Hp} (k : Kp [] H H') : Ex H H' := fun a o h => k.out a o List.not_mem_nil h
local macro_rules | `(tactic| walk_at "frees") => `(tactic| first
  | assumption
  | (refine free_back (by assumption) ?_; walk_at "frees")
  | (refine free_backK (by assumption) (by walk_at "nin") ?_; walk_at "frees"))
local macro_rules | `(tactic| walk_at "mem") => `(tactic| first
  | exact List.mem_cons_self ..
  | (refine List.mem_cons_of_mem _ ?_; walk_at "mem"))
local macro_rules | `(tactic| walk_at "subf") => `(tactic| first
  | exact subf_n
  | (refine subf_c ?a ?t; (case a => first | (refine Or.inl ?_; walk_at "mem") | (refine Or.inr ?_; walk_at "frees") | fail); (case t => walk_at "subf")))
local macro_rules | `(tactic| walk_at "kpx") => `(tactic| first
  | assumption
  | exact Kp.refl _
  | (refine Kp.trans ?_ (Ex.kp (by assumption)); walk_at "kpx")
  | (refine kp_fresh ?k (by assumption) ?f; (case f => walk_at "subf"); (case k => walk_at "kpx")))
local macro_rules | `(tactic| walk_at "exx") => `(tactic| first
  | assumption
  | exact Ex.refl _
  | (refine ex_of_kp ?_; walk_at "kpx"))
theorem st_kpx {st c : Addr} {M : List Addr} {H H' : Hp} (k : Kp M H H') (n : ∀ x, x ∈ M → x ∉ [st, c]) (h : StOk st c H) : StOk st c H' := by
  obtain ⟨⟨ns, s, a, b, d⟩, e⟩ := h
  exact ⟨⟨ns, s, k.out _ _ (fun z => n _ z (by simp)) a, k.out _ _ (fun z => n _ z (by simp)) b, d⟩, e⟩
theorem alln_n {S : List Addr} : ∀ x, x ∈ ([] : List Addr) → x ∉ S := fun _ h => absurd h List.not_mem_nil
theorem alln_c {S M : List Addr} {a : Addr} (h : a ∉ S) (t : ∀ x, x ∈ M → x ∉ S) : ∀ x, x ∈ a :: M → x ∉ S := fun x hx => by
  rcases List.mem_cons.mp hx with rfl | hx
  · exact h
  · exact t x hx
local macro_rules | `(tactic| walk_at "alln") => `(tactic| first
  | assumption
  | exact alln_n
  | (refine alln_c ?a ?t; (case a => walk_at "nin"); (case t => walk_at "alln")))
local macro_rules | `(tactic| walk_at "st_ok") => `(tactic| first
  | assumption
  | (refine st_ex (by assumption) ?_; walk_at "st_ok")
  | (refine st_kpx (by assumption) ?n ?hh; (case hh => walk_at "st_ok"); (case n => walk_at "alln")))
theorem q_catN {K : PySem.W.Frag} {H : Hp} {Q : VK} {a b : Addr} {xs ys : List V} (h1 : H a = some (.lst xs)) (h2 : H b = some (.lst ys)) (z : xs.length + ys.length ≤ 100000) (q : ∀ p Hn, H p = none → Ex H Hn → Hn p = some (.lst (xs ++ ys)) → Q (.ref p) Hn) : rAddA K (.ref a) (.ref b) H Q :=
  .inr (.inr (.inl ⟨a, b, xs, ys, rfl, rfl, h1, h2, sl1000 z, fun p hp => q p _ hp (Ex.mk hp rfl) upd_same⟩))
local macro_rules | `(tactic| walk_at "own") => `(tactic| first
  | ((with_reducible refine q_catN (xs := ?xs) (ys := ?ys) ?h1 ?h2 ?z ?_); (case h1 => walk_at "lift"); (case h2 => walk_at "lift"); (case z => walk_at "len2"); walk_at "i_new"))
theorem r_par {σ : L2.St} {H : Hp} {ta : TA} {i j : Nat} {nx bk ct : L2.St → Hp → Prop} {rt : VK} (q : ta σ H fun vs H1 => ∃ v w, vs = [v, w] ∧ nx ((σ.set i (some v)).set j (some w)) H1) : tPar i j ta ⟨nx, rt, bk, ct⟩ σ H := q
theorem q_par {x y : V} {B : V → V → Prop} (q : B x y) : ∃ v w, [x, y] = [v, w] ∧ B v w := ⟨x, y, rfl, q⟩
local macro_rules | `(tactic| walk_at "own") => `(tactic| first
  | with_reducible refine r_par ?_
  | with_reducible refine q_par ?_)
local macro_rules | `(tactic| walk_at "arx") => `(tactic| first
  | omega
  | decide
  | (simp only [List.length_cons, List.length_nil, List.length_map, List.length_append]; omega))
local macro_rules | `(tactic| walk_at "kp") => `(tactic| first
  | assumption
  | exact Kp.refl _
  | (refine Kp.trans ?_ (by assumption); walk_at "kp")
  | (refine Kp.trans ?_ (Ex.kp (by assumption)); walk_at "kp"))
theorem int_mod (a : Int) {m : Int} (h : 0 < m) : 0 ≤ a % m ∧ a % m < m := ⟨Int.emod_nonneg _ (by omega), Int.emod_lt_of_pos _ h⟩
def sp_state (K : PySem.W.Frag) : Sp := fun vs H Q _ => ∃ (a : Addr) (ns : List Int), vs = [.ref a] ∧ SqL K H a (ns.map V.int) ∧ ns.length ≤ 63 ∧ ∀ st c H', Ex H H' → H st = none → H c = none → StOk st c H' → Q (.ref st) H'
theorem ex_sql {H H' : Hp} {a : Addr} {xs : List V} (e : Ex H H') (h : SqL K H a xs) : SqL K H' a xs := e.same.seq h
theorem abs_nn (i : Int) : 0 ≤ (if i < 0 then -i else i) := by split <;> omega
theorem ok_state (T : Glo K w mg) (D : Dn K mg "_law_state" s__law_state p__law_state) : Cal P w K mg base "_law_state" 1 p__law_state (sp_state K) := by
  refine D.ok sc__law_state (fun vs H Q E h => ?_) (fun f cdv A outer s H vs Q E hr h => ?_)
  · obtain ⟨_, _, rfl, _⟩ := h
    rfl
  obtain ⟨a, ns, rfl, hs, hl, q⟩ := h
  refine ⟨_, (pss_cons (ps_set (i := 1) sc__law_state.nd rfl (by first | exact Or.inl rfl | exact Or.inr rfl) pe_int) (pss_cons (ps_for PassesOwn.never rfl (pi_list (pv 0)) (pg_name (i := 2) sc__law_state.nd rfl (by first | exact Or.inl rfl | exact Or.inr rfl)) (pss_one (ps_set (i := 1) sc__law_state.nd rfl (by first | exact Or.inl rfl | exact Or.inr rfl) (pe_op op_mod (pe_callTy call_intA rfl T.n_int (by decide +kernel) (pa_cons (pe_op op_addA (pe_op op_mul (pv 1) pe_int) (pv 2)) pa_nil)) pe_int)))) (pss_one (ps_ret (pe_lst (pa_cons (pe_lc (own := [("cell", 2)]) (tt := tYes) rfl sc__law_state.nd (pi_list (pv 0)) (blkOk_by (N := ["script", "seed", "cell"]) (sc := defScope s__law_state) (by decide +kernel)) (fun _ _ _ _ _ => (pg_name (i := 2) sc__law_state.nd rfl (by first | exact Or.inl rfl | exact Or.inr rfl))) (fun _ _ _ _ _ => pts_nil) (fun _ _ _ _ _ => (pe_callB call_absA rfl T.n_abs (by decide +kernel) (pa_cons (pv 2) pa_nil)))) (pa_cons (pe_op op_addA (pv 1) pe_int) pa_nil))))))), ?_⟩
  try dsimp only [cxOf, Cx.nox]
  repeat' walk_at "st"
  refine w_list (xs := ns.map V.int) (fun i σ H' => H' = H ∧ ∃ (z : Int) (y : Option V), σ = [some (.ref a), some (.int z), y] ∧ 0 ≤ z ∧ z < 1000003) ?_ ?_ ?_ ?_
  · exact ⟨rfl, 7, none, rfl, by decide, by decide⟩
  · rintro i σ H' _ ⟨rfl, _⟩
    exact hs
  · rintro i x σ H' hx ⟨rfl, z, y, rfl, z0, z1⟩
    rw [List.getElem?_map] at hx
    obtain ⟨n, hn, rfl⟩ := Option.map_eq_some_iff.mp hx
    repeat' walk_at "st"
    refine ⟨rfl, _, some (.int n), rfl, ?_⟩
    exact int_mod _ (by decide)
  · rintro σ H' ⟨rfl, z, y, rfl, z0, z1⟩
    repeat' walk_at "st"
    intro L hL
    refine lc_list (xs := ns.map V.int) (fun i H2 => Ex H' H2 ∧ H2 L = some (.lst ((ns.take i).map fun n => V.int (if n < 0 then -n else n)))) ?_ ?_ ?_ ?_
    · exact ⟨Ex.mk hL rfl, upd_same⟩
    · rintro i H2 _ ⟨e, _⟩
      exact ex_sql e hs
    · rintro i x H2 hx ⟨e, h2⟩
      rw [List.getElem?_map] at hx
      obtain ⟨n, hn, rfl⟩ := Option.map_eq_some_iff.mp hx
      refine ⟨rfl, ?_⟩
      repeat' walk_at "st"
      refine ⟨_, h2, sl1000' ?_, ?_, ?_⟩
      · rw [List.length_map, List.length_take]
        omega
      · intro b u hb
        rw [upd_ne (ne_of_none hb hL)]
        exact e _ _ hb
      · rw [upd_same, List.take_add_one, hn, List.map_append]
        rfl
    · rintro H2 ⟨e, h2⟩
      repeat' walk_at "st"
      rw [List.take_of_length_le (by rw [List.length_map]; exact Nat.le_refl _)] at h2
      refine q p L _ (e.trans ke) (free_back e hp) hL ⟨⟨ns.map fun n => (if n < 0 then -n else n), z + 1, hn, ?_, ?_, by omega, by omega⟩, ?_⟩
      · rw [List.map_map]
        exact ke _ _ h2
      · intro n hn
        obtain ⟨m, _, rfl⟩ := List.mem_map.mp hn
        exact abs_nn m
      · exact ne_of_none h2 hp
def sp_draw : Sp := fun vs H Q _ => ∃ (st c : Addr) (many : Int), vs = [.ref st, .int many] ∧ StOk st c H ∧ 0 < many ∧ many < 1073741824 ∧ ∀ (n : Int) (H' : Hp), 0 ≤ n → n < many → Kp [st, c] H H' → StOk st c H' → Q (.int n) H'
theorem ok_draw (T : Glo K w mg) (D : Dn K mg "_law_draw" s__law_draw p__law_draw) : Cal P w K mg base "_law_draw" 1 p__law_draw sp_draw := by
  refine D.ok sc__law_draw (fun vs H Q E h => ?_) (fun f cdv A outer s H vs Q E hr h => ?_)
  · obtain ⟨_, _, _, rfl, _⟩ := h
    rfl
  obtain ⟨st, c, many, rfl, ⟨⟨ns, z, hst, hc, hn, z0, z1⟩, hne⟩, m0, m1, q⟩ := h
  refine ⟨_, (pss_cons (ps_set (i := 2) sc__law_draw.nd rfl (by first | exact Or.inl rfl | exact Or.inr rfl) (pe_ix ix_seq (pv 0) pe_int (fun _ _ => rfl))) (pss_cons (ps_while PassesOwn.never (PW.pt (pw_and (pt_cmpR op_gt (pe_callB call_lenA rfl T.n_len (by decide +kernel) (pa_cons (pv 2) pa_nil)) pe_int (nomark _)) (pw_and1 (pt_cmpR (op_eqA (hu64 hr)) (pe_ix ix_seq (pv 2) pe_int (fun _ _ => rfl)) pe_int (nomark _))))) (pss_one (ps_expr (pe_bm PySem.F.plainAttrs_list PySem.F.slot_list_pop PySem.F.type_list_pop mt_popAt (pv 2) (pa_cons pe_int pa_nil))))) (pss_cons (ps_if (pt_cmpR op_gt (pe_callB call_lenA rfl T.n_len (by decide +kernel) (pa_cons (pv 2) pa_nil)) pe_int (nomark _)) (pss_cons (ps_set (i := 4) sc__law_draw.nd rfl (by first | exact Or.inl rfl | exact Or.inr rfl) (pe_ix ix_seq (pv 2) pe_int (fun _ _ => rfl))) (pss_cons (ps_asg (pe_op op_fdiv (pv 4) (pv 1)) (pg_sub (pv 2) pe_int set_list)) (pss_one (ps_ret (pe_op op_mod (pe_callTy call_intA rfl T.n_int (by decide +kernel) (pa_cons (pv 4) pa_nil)) (pv 1)))))) pss_nil) (pss_cons (ps_set (i := 3) sc__law_draw.nd rfl (by first | exact Or.inl rfl | exact Or.inr rfl) (pe_op op_mod (pe_callTy call_intA rfl T.n_int (by decide +kernel) (pa_cons (pe_op op_addA (pe_op op_mul (pe_ix ix_seq (pv 0) pe_int (fun _ _ => rfl)) pe_int) pe_int) pa_nil)) pe_int)) (pss_cons (ps_asg (pv 3) (pg_sub (pv 0) pe_int set_list)) (pss_one (ps_ret (pe_op op_mod (pe_callTy call_intA rfl T.n_int (by decide +kernel) (pa_cons (pe_op op_fdiv (pv 3) pe_int) pa_nil)) (pv 1))))))))), ?_⟩
  try dsimp only [cxOf, Cx.nox]
  repeat' walk_at "st"
  refine w_while (fun m σ H' => ∃ ns' : List Int, m = ns'.length ∧ σ = [some (.ref st), some (.int many), some (.ref c), none, none] ∧ H' st = some (.lst [.ref c, .int z]) ∧ H' c = some (.lst (ns'.map V.int)) ∧ (∀ n ∈ ns', 0 ≤ n) ∧ Kp [st, c] H H') ns.length ⟨ns, rfl, rfl, hst, hc, hn, Kp.refl _⟩ ?_ ?_
  · rintro m σ H' ⟨ns', rfl, rfl, h1, h2, h3, h4⟩
    have mc : c ∈ [st, c] := by simp
    have mst : st ∈ [st, c] := by simp
    have ht : ∀ xs, H' st ≠ some (.tup xs) := fun xs e => by rw [h1] at e; cases e
    have hu : ∀ xs, H' c ≠ some (.tup xs) := fun xs e => by rw [h2] at e; cases e
    cases ns' with
    | nil =>
      repeat' walk_at "st"
      have hz := int_mod (z * 48271 + 12345) (m := 2147483647) (by decide)
      exact q _ Hn (int_mod _ m0).1 (int_mod _ m0).2 (h4.trans (ku.sub fun x hx => by rw [List.mem_singleton.mp hx]; exact mst)) ⟨⟨[], _, hu, ku.out _ _ (nin_c hne List.not_mem_nil) h2, h3, hz.1, Int.lt_trans hz.2 (by decide)⟩, hne⟩
    | cons n r =>
      rw [List.map_cons] at h2
      have hn0 := h3 n (List.mem_cons_self ..)
      have hr0 : ∀ n ∈ r, 0 ≤ n := fun k hk => h3 k (List.mem_cons_of_mem _ hk)
      repeat' walk_at "st"
      · exact ⟨r.length, Nat.lt_succ_self _, r, rfl, rfl, ku.out _ _ (nin_c (Ne.symm hne) List.not_mem_nil) h1, hu, hr0, h4.trans (ku.sub fun x hx => by rw [List.mem_singleton.mp hx]; exact mc)⟩
      · refine q _ Hn (int_mod _ m0).1 (int_mod _ m0).2 (h4.trans (ku.sub fun x hx => by rw [List.mem_singleton.mp hx]; exact mc)) ⟨⟨n / many :: r, z, ku.out _ _ (nin_c (Ne.symm hne) List.not_mem_nil) h1, hu, ?_, z0, z1⟩, hne⟩
        intro k hk
        rcases List.mem_cons.mp hk with rfl | hk
        · exact Int.ediv_nonneg hn0 (by omega)
        · exact hr0 _ hk
  · intro σ H Q Q' hQ h
    exact mo_and (mo_test (mo_op mo_I0 (mo_cb mo_lenA (mo_cons mo_var mo_nil)) mo_c)) (mo_test (mo_op mo_eqA (mo_op mo_ix mo_var mo_c) mo_c)) _ _ _ _ hQ h
theorem c_draw {st c : Addr} {many : Int} {H : Hp} {Q : VK} {E : XK} (h1 : StOk st c H) (h2 : 0 < many ∧ many < 1073741824) (q : ∀ (n : Int) (H' : Hp), 0 ≤ n → n < many → Kp [st, c] H H' → StOk st c H' → Q (.int n) H') :
    sp_draw [.ref st, .int many] H Q E := ⟨st, c, many, rfl, h1, h2.1, h2.2, q⟩
set_option hygiene false in
local macro_rules | `(tactic| walk_at "i_c_draw") => `(tactic| intro dn Hn n0 n1 ke so)
local macro_rules | `(tactic| walk_at "own") => `(tactic| (refine c_draw (c := ?c) ?a ?b ?_; (case a => walk_at "st_ok"); (case b => walk_at "arx2"); walk_at "i_c_draw"))
local macro_rules | `(tactic| walk_at "arx2") => `(tactic| first
  | (refine And.intro ?_ ?_ <;> omega)
  | (simp only [List.length_cons, List.length_nil, List.length_map, List.length_append]; refine And.intro ?_ ?_ <;> omega)
  | (refine And.intro ?_ ?_ <;> decide +kernel))
def sp_pick (K : PySem.W.Frag) : Sp := fun vs H Q _ => ∃ (st c a : Addr) (xs : List V), vs = [.ref st, .ref a] ∧ StOk st c H ∧ H a = some (.lst xs) ∧ a ∉ [st, c] ∧ 0 < xs.length ∧ xs.length < 1000000 ∧ ∀ (i : Nat) (v : V) (H' : Hp), xs[i]? = some v → Kp [st, c] H H' → StOk st c H' → Q v H'
theorem ok_pick (T : Glo K w mg) (D : Dn K mg "_law_pick" s__law_pick p__law_pick) (G__law_draw : Cal P w K mg base "_law_draw" 1 p__law_draw sp_draw) : Cal P w K mg base "_law_pick" 2 p__law_pick (sp_pick K) := by
  refine D.ok sc__law_pick (fun vs H Q E h => ?_) (fun f cdv A outer s H vs Q E hr h => ?_)
  · obtain ⟨_, _, _, _, rfl, _⟩ := h
    rfl
  obtain ⟨st, c, a, xs, rfl, so, ha, hn, l0, l1, q⟩ := h
  refine ⟨_, (pss_one (ps_ret (pe_ix ix_seq (pv 1) (pe_cal G__law_draw (hr.mono (by walk_at "lev")) rfl (pa_cons (pv 0) (pa_cons (pe_callB call_lenA rfl T.n_len (by decide +kernel) (pa_cons (pv 1) pa_nil)) pa_nil))) (fun _ _ => rfl)))), ?_⟩
  try dsimp only [cxOf, Cx.nox]
  repeat' walk_at "st"
  obtain ⟨v, e1, e2⟩ := at_i (n := dn) n0 n1
  exact q_ixL (sql (ke.out _ _ hn ha)) e2 (q _ v Hn e1 ke so)
theorem c_pick {st c a : Addr} {xs : List V} {H : Hp} {Q : VK} {E : XK} (h1 : StOk st c H) (h2 : H a = some (.lst xs)) (h3 : a ∉ [st, c]) (h4 : 0 < xs.length ∧ xs.length < 1000000) (q : ∀ (i : Nat) (v : V) (H' : Hp), xs[i]? = some v → Kp [st, c] H H' → StOk st c H' → Q v H') :
    sp_pick K [.ref st, .ref a] H Q E := ⟨st, c, a, xs, rfl, h1, h2, h3, h4.1, h4.2, q⟩
set_option hygiene false in
local macro_rules | `(tactic| walk_at "i_c_pick") => `(tactic| intro j v Hn ej ke so)
local macro_rules | `(tactic| walk_at "own") => `(tactic| (refine c_pick (c := ?c) (xs := ?xs) ?a ?b ?e ?d ?_; (case b => walk_at "lift"); (case a => walk_at "st_ok"); (case e => walk_at "nin"); (case d => walk_at "arx2"); walk_at "i_c_pick"))
local macro_rules | `(tactic| walk_at "ne") => `(tactic| exact op_ne (by decide +kernel))
abbrev s_bit : Stmt := topS 28
theorem sc_bit : FnScope ["truth"] ["truth"] (defScope s_bit) := ⟨rfl, rfl, rfl, by decide +kernel, rfl, by decide +kernel, by decide +kernel⟩
abbrev p_bit : List Str := ["truth"]
abbrev s_holds : Stmt := topS 27
theorem sc_holds : FnScope ["operator", "left", "right"] ["operator", "left", "right"] (defScope s_holds) := ⟨rfl, rfl, rfl, by decide +kernel, rfl, by decide +kernel, by decide +kernel⟩
abbrev p_holds : List Str := ["operator", "left", "right"]
abbrev s_divide : Stmt := topS 26
theorem sc_divide : FnScope ["operator", "left", "right"] ["operator", "left", "right"] (defScope s_divide) := ⟨rfl, rfl, rfl, by decide +kernel, rfl, by decide +kernel, by decide +kernel⟩
abbrev p_divide : List Str := ["operator", "left", "right"]
abbrev s_calculate : Stmt := topS 25
theorem sc_calculate : FnScope ["operator", "left", "right"] ["operator", "left", "right"] (defScope s_calculate) := ⟨rfl, rfl, rfl, by decide +kernel, rfl, by decide +kernel, by decide +kernel⟩
abbrev p_calculate : List Str := ["operator", "left", "right"]
abbrev s_operate : Stmt := topS 24
theorem sc_operate : FnScope ["operator", "operand"] ["operator", "operand"] (defScope s_operate) := ⟨rfl, rfl, rfl, by decide +kernel, rfl, by decide +kernel, by decide +kernel⟩
abbrev p_operate : List Str := ["operator", "operand"]
/-! ### bit, holds, divide, calculate, operate -/
def sp_bit : Sp := fun vs H Q _ => ∃ b : Bool, vs = [.bl b] ∧ Q (.int (b2 b)) H
theorem ok_bit (D : Dn K mg "bit" s_bit p_bit) : Cal P w K mg base "bit" 1 p_bit sp_bit := by
  refine D.ok sc_bit (fun vs H Q E h => ?_) (fun f cdv A outer s H vs Q E hr h => ?_)
  · obtain ⟨b, rfl, _⟩ := h
    rfl
  obtain ⟨b, rfl, q⟩ := h
  refine ⟨_, (pss_one (ps_ret (pe_ifExp (pt_val (pv 0)) pe_int pe_int))), ?_⟩
  cases b <;> (repeat' walk_at "st") <;> exact q
def sp_holds : Sp := fun vs H Q _ => ∃ o a b, vs = [.str (Op.str o), .int a, .int b] ∧ Q (.bl (hold o a b)) H
theorem ok_holds (D : Dn K mg "holds" s_holds p_holds) : Cal P w K mg base "holds" 1 p_holds sp_holds := by
  refine D.ok sc_holds (fun vs H Q E h => ?_) (fun f cdv A outer s H vs Q E hr h => ?_)
  · obtain ⟨_, _, _, rfl, _⟩ := h
    rfl
  obtain ⟨o, a, b, rfl, q⟩ := h
  refine ⟨_, (pss_cons (ps_if (pt_cmpR (op_eqA (hu64 hr)) (pv 0) pe_str (nomark _)) (pss_one (ps_ret (pe_and (pe_cmpR (op_neA (hu64 hr)) (pv 1) pe_int (nomark _)) (pe_one (pe_cmpR (op_neA (hu64 hr)) (pv 2) pe_int (nomark _)))))) pss_nil) (pss_cons (ps_if (pt_cmpR (op_eqA (hu64 hr)) (pv 0) pe_str (nomark _)) (pss_one (ps_ret (pe_or (pe_cmpR (op_neA (hu64 hr)) (pv 1) pe_int (nomark _)) (pe_one (pe_cmpR (op_neA (hu64 hr)) (pv 2) pe_int (nomark _)))))) pss_nil) (pss_cons (ps_if (pt_cmpR (op_eqA (hu64 hr)) (pv 0) pe_str (nomark _)) (pss_one (ps_ret (pe_cmpR (op_eqA (hu64 hr)) (pv 1) (pv 2) (nomark _)))) pss_nil) (pss_cons (ps_if (pt_cmpR (op_eqA (hu64 hr)) (pv 0) pe_str (nomark _)) (pss_one (ps_ret (pe_cmpR (op_neA (hu64 hr)) (pv 1) (pv 2) (nomark _)))) pss_nil) (pss_cons (ps_if (pt_cmpR (op_eqA (hu64 hr)) (pv 0) pe_str (nomark _)) (pss_one (ps_ret (pe_cmpR op_lt (pv 1) (pv 2) (nomark _)))) pss_nil) (pss_one (ps_ret (pe_cmpR op_le (pv 1) (pv 2) (nomark _))))))))), ?_⟩
  try dsimp only [cxOf, Cx.nox]
  cases o <;> (repeat' walk_at "st") <;> simp_all [hold]
theorem c_bit {H : Hp} {Q : VK} {E : XK} {b : Bool} (q : Q (.int (b2 b)) H) : sp_bit [.bl b] H Q E := ⟨b, rfl, q⟩
theorem c_holds {H : Hp} {Q : VK} {E : XK} {o : Op} {a b : Int} (q : Q (.bl (hold o a b)) H) : sp_holds [.str o.str, .int a, .int b] H Q E := ⟨o, a, b, rfl, q⟩
local macro_rules | `(tactic| walk_at "own") => `(tactic| refine c_bit ?_)
local macro_rules | `(tactic| walk_at "own") => `(tactic| refine c_holds ?_)
def sp_divide : Sp := fun vs H Q _ => ∃ o a b, vs = [.str (Op.str o), .int a, .int b] ∧ (o = .div ∨ o = .mod) ∧ (0 ≤ b ∧ b < 65536) ∧ Q (optV (calc2 o a b)) H
theorem ok_divide (D : Dn K mg "divide" s_divide p_divide) : Cal P w K mg base "divide" 1 p_divide sp_divide := by
  refine D.ok sc_divide (fun vs H Q E h => ?_) (fun f cdv A outer s H vs Q E hr h => ?_)
  · obtain ⟨_, _, _, rfl, _⟩ := h
    rfl
  obtain ⟨o, a, b, rfl, ho, hb, q⟩ := h
  refine ⟨_, (pss_cons (ps_if (pt_cmpR (op_eqA (hu64 hr)) (pv 2) pe_int (nomark _)) (pss_one (ps_ret pe_non)) pss_nil) (pss_one (ps_ret (pe_ifExp (pt_cmpR (op_eqA (hu64 hr)) (pv 0) pe_str (nomark _)) (pe_op op_fdiv (pv 1) (pv 2)) (pe_op op_mod (pv 1) (pv 2)))))), ?_⟩
  try dsimp only [cxOf, Cx.nox]
  rcases ho with rfl | rfl
  all_goals (repeat' walk_at "st")
  all_goals simp_all [calc2, optV]
theorem c_divide {H : Hp} {Q : VK} {E : XK} {o : Op} {a b : Int} (h1 : o = .div ∨ o = .mod) (h2 : 0 ≤ b ∧ b < 65536) (q : Q (optV (calc2 o a b)) H) : sp_divide [.str o.str, .int a, .int b] H Q E := ⟨o, a, b, rfl, h1, h2, q⟩
local macro_rules | `(tactic| walk_at "own") => `(tactic| (refine c_divide ?a ?b ?_; (case a => first | exact Or.inl rfl | exact Or.inr rfl); (case b => walk_at "ar")))
def sp_calc : Sp := fun vs H Q _ => ∃ o a b, vs = [.str (Op.str o), .int a, .int b] ∧ (0 ≤ a ∧ a < 65536) ∧ (0 ≤ b ∧ b < 65536) ∧ Q (optV (calc2 o a b)) H
theorem ok_calculate (T : Glo K w mg) (D : Dn K mg "calculate" s_calculate p_calculate) (G_bit : Cal P w K mg base "bit" 1 p_bit sp_bit) (G_holds : Cal P w K mg base "holds" 1 p_holds sp_holds) (G_divide : Cal P w K mg base "divide" 1 p_divide sp_divide) :
    Cal P w K mg base "calculate" 2 p_calculate sp_calc := by
  refine D.ok sc_calculate (fun vs H Q E h => ?_) (fun f cdv A outer s H vs Q E hr h => ?_)
  · obtain ⟨_, _, _, rfl, _⟩ := h
    rfl
  obtain ⟨o, a, b, rfl, ha, hb, q⟩ := h
  refine ⟨_, (pss_cons (ps_if (pt_cmpR (op_eqA (hu64 hr)) (pv 0) pe_str (nomark _)) (pss_one (ps_ret (pe_op op_mod (pe_op op_addA (pv 1) (pv 2)) (pe_globC rfl T.c_WORDS)))) pss_nil) (pss_cons (ps_if (pt_cmpR (op_eqA (hu64 hr)) (pv 0) pe_str (nomark _)) (pss_one (ps_ret (pe_op op_mod (pe_op op_sub (pv 1) (pv 2)) (pe_globC rfl T.c_WORDS)))) pss_nil) (pss_cons (ps_if (pt_cmpR (op_eqA (hu64 hr)) (pv 0) pe_str (nomark _)) (pss_one (ps_ret (pe_op op_mod (pe_op op_mul (pv 1) (pv 2)) (pe_globC rfl T.c_WORDS)))) pss_nil) (pss_cons (ps_if (PW.pt (pw_or (pt_cmpR (op_eqA (hu64 hr)) (pv 0) pe_str (nomark _)) (pw_or1 (pt_cmpR (op_eqA (hu64 hr)) (pv 0) pe_str (nomark _))))) (pss_one (ps_ret (pe_cal G_divide (hr.mono (by walk_at "lev")) rfl (pa_cons (pv 0) (pa_cons (pv 1) (pa_cons (pv 2) pa_nil)))))) pss_nil) (pss_one (ps_ret (pe_cal G_bit (hr.mono (by walk_at "lev")) rfl (pa_cons (pe_cal G_holds (hr.mono (by walk_at "lev")) rfl (pa_cons (pv 0) (pa_cons (pv 1) (pa_cons (pv 2) pa_nil)))) pa_nil)))))))), ?_⟩
  try dsimp only [cxOf, Cx.nox]
  cases o <;> (repeat' walk_at "st")
def sp_operate : Sp := fun vs H Q _ => ∃ (b : Bool) (i : Option Int), vs = [.str (if b = true then "neg" else "not"), optV i] ∧ (∀ x, i = some x → 0 ≤ x ∧ x < 65536) ∧ Q (optV (if b = true then i.map fun x => -x % 65536 else i.map fun x => b2 (decide (x = 0)))) H
theorem ok_operate (T : Glo K w mg) (D : Dn K mg "operate" s_operate p_operate) (G_bit : Cal P w K mg base "bit" 1 p_bit sp_bit) : Cal P w K mg base "operate" 2 p_operate sp_operate := by
  refine D.ok sc_operate (fun vs H Q E h => ?_) (fun f cdv A outer s H vs Q E hr h => ?_)
  · obtain ⟨_, _, rfl, _⟩ := h
    rfl
  obtain ⟨b, i, rfl, ha, q⟩ := h
  refine ⟨_, (pss_cons (ps_if (pt_cmpR op_isN1 (pv 1) pe_non (nomark _)) (pss_one (ps_ret pe_non)) pss_nil) (pss_cons (ps_if (pt_cmpR (op_eqA (hu64 hr)) (pv 0) pe_str (nomark _)) (pss_one (ps_ret (pe_op op_mod (pe_un un_neg (pv 1)) (pe_globC rfl T.c_WORDS)))) pss_nil) (pss_one (ps_ret (pe_cal G_bit (hr.mono (by walk_at "lev")) rfl (pa_cons (pe_cmpR (op_eqA (hu64 hr)) (pv 1) pe_int (nomark _)) pa_nil)))))), ?_⟩
  try dsimp only [cxOf, Cx.nox]
  cases b <;> cases i <;> simp only [optV, if_true, if_false, Bool.false_eq_true, Option.map] at q ⊢ <;> (repeat' walk_at "st")
  all_goals simp_all
theorem c_operate {H : Hp} {Q : VK} {E : XK} {b : Bool} {i : Option Int} (h1 : ∀ x, i = some x → 0 ≤ x ∧ x < 65536) (q : Q (optV (if b = true then i.map fun x => -x % 65536 else i.map fun x => b2 (decide (x = 0)))) H) :
    sp_operate [.str (if b = true then "neg" else "not"), optV i] H Q E := ⟨b, i, rfl, h1, q⟩
theorem c_calc {H : Hp} {Q : VK} {E : XK} {o : Op} {a b : Int} (h1 : 0 ≤ a ∧ a < 65536) (h2 : 0 ≤ b ∧ b < 65536) (q : Q (optV (calc2 o a b)) H) : sp_calc [.str o.str, .int a, .int b] H Q E := ⟨o, a, b, rfl, h1, h2, q⟩
/-! ### data whose lists are not among M -/
mutual
inductive DpM (M : List Addr) (H : Hp) : V → PyData → Prop
  | non : DpM M H .non .none
  | bl (b : Bool) : DpM M H (.bl b) (.bool b)
  | int (i : Int) : DpM M H (.int i) (.int i)
  | str (x : Str) : DpM M H (.str x) (.str x)
  | lst {a : Addr} {xs : List V} {ds : List PyData} : a ∉ M → H a = some (.lst xs) → DpMs M H xs ds → DpM M H (.ref a) (.list ds)
  | tup {a : Addr} {xs : List V} {ds : List PyData} : H a = some (.tup xs) → DpMs M H xs ds → DpM M H (.ref a) (.tuple ds)
inductive DpMs (M : List Addr) (H : Hp) : List V → List PyData → Prop
  | nil : DpMs M H [] []
  | cons {v : V} {vs : List V} {d : PyData} {ds : List PyData} : DpM M H v d → DpMs M H vs ds → DpMs M H (v :: vs) (d :: ds)
end
mutual
theorem dpm_kp {M N : List Addr} {H H' : Hp} (e : Kp N H H') (s : ∀ x, x ∈ N → x ∈ M) : ∀ {v : V} {d : PyData}, DpM M H v d → DpM M H' v d
  | _, _, .non => .non
  | _, _, .bl b => .bl b
  | _, _, .int i => .int i
  | _, _, .str x => .str x
  | _, _, .lst n h t => .lst n (e.out _ _ (fun z => n (s _ z)) h) (dpms_kp e s t)
  | _, _, .tup h t => .tup (e.tup _ _ h) (dpms_kp e s t)
theorem dpms_kp {M N : List Addr} {H H' : Hp} (e : Kp N H H') (s : ∀ x, x ∈ N → x ∈ M) : ∀ {vs : List V} {ds : List PyData}, DpMs M H vs ds → DpMs M H' vs ds
  | _, _, .nil => .nil
  | _, _, .cons h t => .cons (dpm_kp e s h) (dpms_kp e s t)
end
mutual
theorem dpm_dp {M : List Addr} {K : PySem.W.Frag} {H : Hp} : ∀ {v : V} {d : PyData}, DpM M H v d → Dp K H v d
  | _, _, .non => .non
  | _, _, .bl b => .bl b
  | _, _, .int i => .int i
  | _, _, .str x => .str x
  | _, _, .lst n h t => .lst (sql h) (dpms_dp t)
  | _, _, .tup h t => .tup (sqt h) (dpms_dp t)
theorem dpms_dp {M : List Addr} {K : PySem.W.Frag} {H : Hp} : ∀ {vs : List V} {ds : List PyData}, DpMs M H vs ds → DpAll K H vs ds
  | _, _, .nil => .nil
  | _, _, .cons h t => .cons (dpm_dp h) (dpms_dp t)
end
theorem dpms_app {M : List Addr} {H : Hp} : ∀ {vs ws : List V} {ds es : List PyData}, DpMs M H vs ds → DpMs M H ws es → DpMs M H (vs ++ ws) (ds ++ es)
  | _, _, _, _, .nil, h => h
  | _, _, _, _, .cons a t, h => .cons a (dpms_app t h)
theorem dpms_one {M : List Addr} {H : Hp} {v : V} {d : PyData} (h : DpM M H v d) : DpMs M H [v] [d] := .cons h .nil
theorem dpms_ints {M : List Addr} {H : Hp} : ∀ ns : List Int, DpMs M H (ns.map V.int) (fInts ns)
  | [] => .nil
  | n :: r => .cons (.int n) (dpms_ints r)
theorem dpms_len {M : List Addr} {H : Hp} : ∀ {vs : List V} {ds : List PyData}, DpMs M H vs ds → vs.length = ds.length
  | _, _, .nil => rfl
  | _, _, .cons _ t => by rw [List.length_cons, List.length_cons, dpms_len t]
/-- what M holds stands -/
def Mo (M : List Addr) (H : Hp) : Prop := ∀ x, x ∈ M → H x ≠ none
theorem Mo.new {M : List Addr} {H : Hp} {p : Addr} (m : Mo M H) (h : H p = none) : p ∉ M := fun z => m p z h
theorem ex_dom {H H' : Hp} (e : Ex H H') {x : Addr} (h : H x ≠ none) : H' x ≠ none := fun z => by
  cases h1 : H x with
  | none => exact h h1
  | some o => rw [e _ _ h1] at z; cases z
theorem mo_ex {M : List Addr} {H H' : Hp} (e : Ex H H') (m : Mo M H) : Mo M H' := fun x hx => ex_dom e (m x hx)
/-- one object changed, the others stay -/
theorem kp_dom {N : List Addr} {H H' : Hp} (e : Kp N H H') (n : ∀ x, x ∈ N → H' x ≠ none) {x : Addr} (h : H x ≠ none) : H' x ≠ none := fun z => by
  by_cases hx : x ∈ N
  · exact n x hx z
  · cases h1 : H x with
    | none => exact h h1
    | some o => rw [e.out _ _ hx h1] at z; cases z
theorem mo_kp {M N : List Addr} {H H' : Hp} (e : Kp N H H') (n : ∀ x, x ∈ N → H' x ≠ none) (m : Mo M H) : Mo M H' := fun x hx => kp_dom e n (m x hx)
theorem kp_new {p : Addr} {H H' : Hp} (e : Kp [p] H H') : ∀ {H0 : Hp}, Ex H0 H → H0 p = none → Ex H0 H' := fun k hp a o h => e.out a o (by
  intro z
  rw [List.mem_singleton.mp z, hp] at h
  cases h) (k a o h)
mutual
theorem dpm_sub {M N : List Addr} {H : Hp} (s : ∀ x, x ∈ N → x ∈ M) : ∀ {v : V} {d : PyData}, DpM M H v d → DpM N H v d
  | _, _, .non => .non
  | _, _, .bl b => .bl b
  | _, _, .int i => .int i
  | _, _, .str x => .str x
  | _, _, .lst n h t => .lst (fun z => n (s _ z)) h (dpms_sub s t)
  | _, _, .tup h t => .tup h (dpms_sub s t)
theorem dpms_sub {M N : List Addr} {H : Hp} (s : ∀ x, x ∈ N → x ∈ M) : ∀ {vs : List V} {ds : List PyData}, DpMs M H vs ds → DpMs N H vs ds
  | _, _, .nil => .nil
  | _, _, .cons h t => .cons (dpm_sub s h) (dpms_sub s t)
end
theorem dpm_ex {M : List Addr} {H H' : Hp} (e : Ex H H') {v : V} {d : PyData} (h : DpM M H v d) : DpM M H' v d := dpm_kp (N := []) e.kp (fun _ z => absurd z List.not_mem_nil) h
theorem dpms_ex {M : List Addr} {H H' : Hp} (e : Ex H H') {vs : List V} {ds : List PyData} (h : DpMs M H vs ds) : DpMs M H' vs ds := dpms_kp (N := []) e.kp (fun _ z => absurd z List.not_mem_nil) h
theorem sub_hd {D : Addr} {M : List Addr} : ∀ x, x ∈ [D] → x ∈ D :: M := fun x h => by rw [List.mem_singleton.mp h]; exact List.mem_cons_self ..
theorem sub_tl {D : Addr} {M : List Addr} : ∀ x, x ∈ M → x ∈ D :: M := fun x h => List.mem_cons_of_mem _ h
theorem sub_mem {D : Addr} {M : List Addr} (m : D ∈ M) : ∀ x, x ∈ [D] → x ∈ M := fun x h => by rw [List.mem_singleton.mp h]; exact m
theorem mo_add {D : Addr} {M : List Addr} {H : Hp} (h : H D ≠ none) (m : Mo M H) : Mo (D :: M) H := fun x hx => by
  rcases List.mem_cons.mp hx with rfl | hx
  · exact h
  · exact m x hx
theorem mo_kp1 {p : Addr} {M : List Addr} {H H' : Hp} {o : HO} (e : Kp [p] H H') (h : H' p = some o) (m : Mo M H) : Mo M H' := mo_kp e (fun x hx => by rw [List.mem_singleton.mp hx]; exact fsome h) m
mutual
theorem dpm_add {M : List Addr} {H : Hp} {p : Addr} (n : H p = none) : ∀ {v : V} {d : PyData}, DpM M H v d → DpM (p :: M) H v d
  | _, _, .non => .non
  | _, _, .bl b => .bl b
  | _, _, .int i => .int i
  | _, _, .str x => .str x
  | _, _, .lst m h t => .lst (nin_c (ne_of_none h n) m) h (dpms_add n t)
  | _, _, .tup h t => .tup h (dpms_add n t)
theorem dpms_add {M : List Addr} {H : Hp} {p : Addr} (n : H p = none) : ∀ {vs : List V} {ds : List PyData}, DpMs M H vs ds → DpMs (p :: M) H vs ds
  | _, _, .nil => .nil
  | _, _, .cons h t => .cons (dpm_add n h) (dpms_add n t)
end
theorem dpms_at {M : List Addr} {H : Hp} : ∀ {vs : List V} {ds : List PyData} {i : Nat} {v : V}, DpMs M H vs ds → vs[i]? = some v → ∃ d, ds[i]? = some d ∧ DpM M H v d
  | _, _, _, _, .nil, h => by simp at h
  | _, _, 0, _, .cons a t, h => by
    simp at h
    subst h
    exact ⟨_, rfl, a⟩
  | _, _, i + 1, _, .cons a t, h => by
    obtain ⟨d, h1, h2⟩ := dpms_at (i := i) t (by simpa using h)
    exact ⟨d, by simpa using h1, h2⟩
theorem dpm_int {M : List Addr} {H : Hp} {v : V} {i : Int} (h : DpM M H v (.int i)) : v = .int i := by cases h; rfl
theorem dpm_str {M : List Addr} {H : Hp} {v : V} {i : Str} (h : DpM M H v (.str i)) : v = .str i := by cases h; rfl
theorem dpm_tup {M : List Addr} {H : Hp} {v : V} {ds : List PyData} (h : DpM M H v (.tuple ds)) : ∃ a xs, v = .ref a ∧ H a = some (.tup xs) ∧ DpMs M H xs ds := by
  cases h with
  | tup h t => exact ⟨_, _, rfl, h, t⟩
theorem dpm_lst {M : List Addr} {H : Hp} {v : V} {ds : List PyData} (h : DpM M H v (.list ds)) : ∃ a xs, v = .ref a ∧ a ∉ M ∧ H a = some (.lst xs) ∧ DpMs M H xs ds := by
  cases h with
  | lst n h t => exact ⟨_, _, rfl, n, h, t⟩
theorem dpms_cons {M : List Addr} {H : Hp} {vs : List V} {d : PyData} {ds : List PyData} (h : DpMs M H vs (d :: ds)) : ∃ v ws, vs = v :: ws ∧ DpM M H v d ∧ DpMs M H ws ds := by
  cases h with
  | cons a t => exact ⟨_, _, rfl, a, t⟩
theorem dpms_nil {M : List Addr} {H : Hp} {vs : List V} (h : DpMs M H vs []) : vs = [] := by cases h; rfl
theorem dpms_intsV {M : List Addr} {H : Hp} : ∀ {vs : List V} {ns : List Int}, DpMs M H vs (fInts ns) → vs = ns.map V.int
  | _, [], .nil => rfl
  | _, n :: r, .cons h t => by
    cases h
    rw [dpms_intsV t, List.map_cons]
/-! ### the workspace -/
abbrev s_Workspace___init__ : Stmt := inClass (topS 30) 0
theorem sc_Workspace___init__ : FnScope ["self", "number", "thread", "values", "parent", "places", "takes", "gives", "code"] ["self", "number", "thread", "values"] (defScope s_Workspace___init__) := ⟨rfl, rfl, rfl, by decide +kernel, rfl, by decide +kernel, by decide +kernel⟩
abbrev p_Workspace___init__ : List Str := ["self", "number", "thread", "values"]
abbrev s_Workspace_cell : Stmt := inClass (topS 30) 1
theorem sc_Workspace_cell : FnScope ["self", "number"] ["self", "number"] (defScope s_Workspace_cell) := ⟨rfl, rfl, rfl, by decide +kernel, rfl, by decide +kernel, by decide +kernel⟩
abbrev p_Workspace_cell : List Str := ["self", "number"]
abbrev s_Workspace_store : Stmt := inClass (topS 30) 2
theorem sc_Workspace_store : FnScope ["self", "number", "word"] ["self", "number", "word"] (defScope s_Workspace_store) := ⟨rfl, rfl, rfl, by decide +kernel, rfl, by decide +kernel, by decide +kernel⟩
abbrev p_Workspace_store : List Str := ["self", "number", "word"]
abbrev s_Workspace_step : Stmt := inClass (topS 30) 4
theorem sc_Workspace_step : FnScope ["self", "instruction", "action"] ["self", "instruction"] (defScope s_Workspace_step) := ⟨rfl, rfl, rfl, by decide +kernel, rfl, by decide +kernel, by decide +kernel⟩
abbrev p_Workspace_step : List Str := ["self", "instruction"]
abbrev s_step_push : Stmt := topS 31
theorem sc_step_push : FnScope ["work", "instruction"] ["work", "instruction"] (defScope s_step_push) := ⟨rfl, rfl, rfl, by decide +kernel, rfl, by decide +kernel, by decide +kernel⟩
abbrev p_step_push : List Str := ["work", "instruction"]
abbrev s_step_load : Stmt := topS 32
theorem sc_step_load : FnScope ["work", "instruction"] ["work", "instruction"] (defScope s_step_load) := ⟨rfl, rfl, rfl, by decide +kernel, rfl, by decide +kernel, by decide +kernel⟩
abbrev p_step_load : List Str := ["work", "instruction"]
abbrev s_step_store : Stmt := topS 33
theorem sc_step_store : FnScope ["work", "instruction"] ["work", "instruction"] (defScope s_step_store) := ⟨rfl, rfl, rfl, by decide +kernel, rfl, by decide +kernel, by decide +kernel⟩
abbrev p_step_store : List Str := ["work", "instruction"]
abbrev s_step_loadx : Stmt := topS 34
theorem sc_step_loadx : FnScope ["work", "instruction", "_", "k", "size", "index"] ["work", "instruction"] (defScope s_step_loadx) := ⟨rfl, rfl, rfl, by decide +kernel, rfl, by decide +kernel, by decide +kernel⟩
abbrev p_step_loadx : List Str := ["work", "instruction"]
abbrev s_step_storex : Stmt := topS 35
theorem sc_step_storex : FnScope ["work", "instruction", "_", "k", "size", "index"] ["work", "instruction"] (defScope s_step_storex) := ⟨rfl, rfl, rfl, by decide +kernel, rfl, by decide +kernel, by decide +kernel⟩
abbrev p_step_storex : List Str := ["work", "instruction"]
abbrev s_step_check : Stmt := topS 36
theorem sc_step_check : FnScope ["work", "instruction"] ["work", "instruction"] (defScope s_step_check) := ⟨rfl, rfl, rfl, by decide +kernel, rfl, by decide +kernel, by decide +kernel⟩
abbrev p_step_check : List Str := ["work", "instruction"]
abbrev s_index_fits : Stmt := topS 37
theorem sc_index_fits : FnScope ["work", "size"] ["work", "size"] (defScope s_index_fits) := ⟨rfl, rfl, rfl, by decide +kernel, rfl, by decide +kernel, by decide +kernel⟩
abbrev p_index_fits : List Str := ["work", "size"]
abbrev s_step_operation : Stmt := topS 38
theorem sc_step_operation : FnScope ["work", "instruction"] ["work", "instruction"] (defScope s_step_operation) := ⟨rfl, rfl, rfl, by decide +kernel, rfl, by decide +kernel, by decide +kernel⟩
abbrev p_step_operation : List Str := ["work", "instruction"]
abbrev s_step_calc : Stmt := topS 39
theorem sc_step_calc : FnScope ["work", "instruction", "second", "first"] ["work", "instruction"] (defScope s_step_calc) := ⟨rfl, rfl, rfl, by decide +kernel, rfl, by decide +kernel, by decide +kernel⟩
abbrev p_step_calc : List Str := ["work", "instruction"]
abbrev s_push_value : Stmt := topS 40
theorem sc_push_value : FnScope ["work", "worth"] ["work", "worth"] (defScope s_push_value) := ⟨rfl, rfl, rfl, by decide +kernel, rfl, by decide +kernel, by decide +kernel⟩
abbrev p_push_value : List Str := ["work", "worth"]
abbrev s_step_jump : Stmt := topS 41
theorem sc_step_jump : FnScope ["work", "instruction"] ["work", "instruction"] (defScope s_step_jump) := ⟨rfl, rfl, rfl, by decide +kernel, rfl, by decide +kernel, by decide +kernel⟩
abbrev p_step_jump : List Str := ["work", "instruction"]
abbrev s_step_jzero : Stmt := topS 42
theorem sc_step_jzero : FnScope ["work", "instruction"] ["work", "instruction"] (defScope s_step_jzero) := ⟨rfl, rfl, rfl, by decide +kernel, rfl, by decide +kernel, by decide +kernel⟩
abbrev p_step_jzero : List Str := ["work", "instruction"]
abbrev s_step_stop : Stmt := topS 43
theorem sc_step_stop : FnScope ["work", "instruction"] ["work", "instruction"] (defScope s_step_stop) := ⟨rfl, rfl, rfl, by decide +kernel, rfl, by decide +kernel, by decide +kernel⟩
abbrev p_step_stop : List Str := ["work", "instruction"]
abbrev s_copied : Stmt := topS 21
theorem sc_copied : FnScope ["part", "inner", "key"] ["part"] (defScope s_copied) := ⟨rfl, rfl, rfl, by decide +kernel, rfl, by decide +kernel, by decide +kernel⟩
abbrev p_copied : List Str := ["part"]
structure Ws where
  cs : List Int
  sk : List Int
  pc : Int
  st : Str
inductive Is | push (n : Int) | load (j : Nat) | store (j : Nat) | loadx (j : Nat) (sz : Int) | storex (j : Nat) (sz : Int) | check (sz : Int) | neg | not | calc (o : Op) | jump (a : Int) | jzero (a : Int) | stop
def Is.nm : Is → Str
  | .push _ => "push" | .load _ => "load" | .store _ => "store" | .loadx _ _ => "loadx" | .storex _ _ => "storex" | .check _ => "check" | .neg => "neg" | .not => "not" | .calc _ => "calc" | .jump _ => "jump" | .jzero _ => "jzero" | .stop => "stop"
def Is.vals : Is → List V
  | .push n => [.str "push", .int n]
  | .load j => [.str "load", .int (j : Nat)]
  | .store j => [.str "store", .int (j : Nat)]
  | .loadx j s => [.str "loadx", .int (j : Nat), .int s]
  | .storex j s => [.str "storex", .int (j : Nat), .int s]
  | .check s => [.str "check", .int s]
  | .neg => [.str "neg"]
  | .not => [.str "not"]
  | .calc o => [.str "calc", .str o.str]
  | .jump a => [.str "jump", .int a]
  | .jzero a => [.str "jzero", .int a]
  | .stop => [.str "stop"]
def Wd16 (x : Int) : Prop := 0 ≤ x ∧ x < 65536
inductive Does : Is → Ws → Ws → Prop
  | push {n : Int} {cs s : List Int} {a : Int} {t : Str} : Does (.push n) ⟨cs, s, a, t⟩ ⟨cs, n :: s, a, t⟩
  | load {j : Nat} {cs s : List Int} {a : Int} {t : Str} : j < cs.length → Does (.load j) ⟨cs, s, a, t⟩ ⟨cs, cs.getD j 0 :: s, a, t⟩
  | store {j : Nat} {x : Int} {cs s : List Int} {a : Int} {t : Str} : j < cs.length → Does (.store j) ⟨cs, x :: s, a, t⟩ ⟨cs.set j x, s, a, t⟩
  | loadx {j i : Nat} {sz : Int} {cs s : List Int} {a : Int} {t : Str} : (i : Int) < sz → j + i < cs.length → Does (.loadx j sz) ⟨cs, (i : Nat) :: s, a, t⟩ ⟨cs, cs.getD (j + i) 0 :: s, a, t⟩
  | loadxF {j : Nat} {i sz : Int} {cs s : List Int} {a : Int} {t : Str} : sz ≤ i → Does (.loadx j sz) ⟨cs, i :: s, a, t⟩ ⟨cs, i :: s, a, "faulted"⟩
  | storex {j i : Nat} {x sz : Int} {cs s : List Int} {a : Int} {t : Str} : (i : Int) < sz → j + i < cs.length → Does (.storex j sz) ⟨cs, (i : Nat) :: x :: s, a, t⟩ ⟨cs.set (j + i) x, s, a, t⟩
  | storexF {j : Nat} {i sz : Int} {cs s : List Int} {a : Int} {t : Str} : sz ≤ i → Does (.storex j sz) ⟨cs, i :: s, a, t⟩ ⟨cs, i :: s, a, "faulted"⟩
  | check {i sz : Int} {cs s : List Int} {a : Int} {t : Str} : i < sz → Does (.check sz) ⟨cs, i :: s, a, t⟩ ⟨cs, i :: s, a, t⟩
  | checkF {i sz : Int} {cs s : List Int} {a : Int} {t : Str} : sz ≤ i → Does (.check sz) ⟨cs, i :: s, a, t⟩ ⟨cs, i :: s, a, "faulted"⟩
  | neg {x : Int} {cs s : List Int} {a : Int} {t : Str} : Wd16 x → Does .neg ⟨cs, x :: s, a, t⟩ ⟨cs, (-x % 65536) :: s, a, t⟩
  | not {x : Int} {cs s : List Int} {a : Int} {t : Str} : Wd16 x → Does .not ⟨cs, x :: s, a, t⟩ ⟨cs, b2 (decide (x = 0)) :: s, a, t⟩
  | calc {o : Op} {x y z : Int} {cs s : List Int} {a : Int} {t : Str} : Wd16 x → Wd16 y → calc2 o x y = some z → Does (.calc o) ⟨cs, y :: x :: s, a, t⟩ ⟨cs, z :: s, a, t⟩
  | calcF {o : Op} {x y : Int} {cs s : List Int} {a : Int} {t : Str} : Wd16 x → Wd16 y → calc2 o x y = none → Does (.calc o) ⟨cs, y :: x :: s, a, t⟩ ⟨cs, s, a, "faulted"⟩
  | jump {b : Int} {cs s : List Int} {a : Int} {t : Str} : Does (.jump b) ⟨cs, s, a, t⟩ ⟨cs, s, b, t⟩
  | jzero {b : Int} {cs s : List Int} {a : Int} {t : Str} : Does (.jzero b) ⟨cs, 0 :: s, a, t⟩ ⟨cs, s, b, t⟩
  | jzeroN {b x : Int} {cs s : List Int} {a : Int} {t : Str} : x ≠ 0 → Does (.jzero b) ⟨cs, x :: s, a, t⟩ ⟨cs, s, a, t⟩
  | stop {cs s : List Int} {a : Int} {t : Str} : Does .stop ⟨cs, s, a, t⟩ ⟨cs, s, a, "stopped"⟩
structure WkK (K : PySem.W.Frag) (C : Addr) : Prop where
  cl : Cls K C
  n1 : NoAttr K C "number"
  n2 : NoAttr K C "parent"
  n3 : NoAttr K C "takes"
  n4 : NoAttr K C "gives"
  n5 : NoAttr K C "code"
  n6 : NoAttr K C "cells"
  n7 : NoAttr K C "stack"
  n8 : NoAttr K C "at"
  n9 : NoAttr K C "state"
/-- what does not change: its own dict, number, parent, takes, gives, code; the cells' list and the stack's -/
structure Wa where
  dx : Addr
  nu : V
  pa : V
  ta : Addr
  ga : Addr
  co : Addr
  ce : Addr
  sk : Addr
def wfl (q : Wa) (a : Int) (t : Str) : List (Str × V) := [("number", q.nu), ("parent", q.pa), ("takes", .ref q.ta), ("gives", .ref q.ga), ("code", .ref q.co), ("cells", .ref q.ce), ("stack", .ref q.sk), ("at", .int a), ("state", .str t)]
structure WAt (C : Addr) (H : Hp) (wk : Addr) (q : Wa) (w : Ws) : Prop where
  ob : H wk = some (.ins C q.dx (wfl q w.pc w.st))
  ce : H q.ce = some (.lst (w.cs.map V.int))
  sk : H q.sk = some (.lst (w.sk.reverse.map V.int))
  ne : q.ce ≠ q.sk
theorem WAt.kp {C : Addr} {M : List Addr} {H H' : Hp} {wk : Addr} {q : Wa} {w : Ws} (k : Kp M H H') (a : wk ∉ M) (b : q.ce ∉ M) (c : q.sk ∉ M) (h : WAt C H wk q w) : WAt C H' wk q w := ⟨k.out _ _ a h.ob, k.out _ _ b h.ce, k.out _ _ c h.sk, h.ne⟩
theorem WAt.exx {C : Addr} {H H' : Hp} {wk : Addr} {q : Wa} {w : Ws} (k : Ex H H') (h : WAt C H wk q w) : WAt C H' wk q w := h.kp (M := []) k.kp List.not_mem_nil List.not_mem_nil List.not_mem_nil
section
variable {K : PySem.W.Frag} {H : Hp} {Q : VK}
theorem rev_cons {x : Int} {s : List Int} : (x :: s).reverse.map V.int = s.reverse.map V.int ++ [V.int x] := by rw [List.reverse_cons, List.map_append]; rfl
theorem q_pushL {l : Addr} {y : Int} {s : List Int} (h : H l = some (.lst (s.reverse.map V.int))) (z : s.length < 90000) (q : ∀ Hn, Kp [l] H Hn → Hn l = some (.lst ((y :: s).reverse.map V.int)) → Q .non Hn) : rAppend (.ref l) [.int y] H Q :=
  q_appN h (by rw [List.length_map, List.length_reverse]; omega) (fun Hn k e => q Hn k (by rw [e, rev_cons]))
theorem q_popL {l : Addr} {x : Int} {s : List Int} (h : H l = some (.lst ((x :: s).reverse.map V.int))) (q : ∀ Hn, Kp [l] H Hn → Hn l = some (.lst (s.reverse.map V.int)) → Q (.int x) Hn) : rPop (.ref l) [] H Q := by
  rw [rev_cons] at h
  exact ⟨l, _, .int x, rfl, rfl, h, by simp, q _ (kp_one h (by intro _ z; cases z)) (by rw [upd_same, List.dropLast_concat])⟩
theorem q_topL {l : Addr} {x : Int} {s : List Int} (h : H l = some (.lst ((x :: s).reverse.map V.int))) (q : Q (.int x) H) : rIx K (.ref l) (.int (-1)) H Q := by
  rw [rev_cons] at h
  refine q_ixL (sql h) ?_ q
  unfold atI
  have e : ixN (s.reverse.map V.int ++ [V.int x]).length (-1) = some (s.reverse.map V.int).length := by
    unfold ixN
    rw [if_neg (by decide), if_pos (by rw [List.length_append, List.length_singleton]; omega)]
    congr 1
    rw [List.length_append, List.length_singleton]
    omega
  rw [e]
  simp
end
local macro_rules | `(tactic| walk_at "own") => `(tactic| first
  | ((with_reducible refine q_pushL (s := ?s) ?h ?z ?_); (case h => walk_at "lift"); (case z => walk_at "len2"); walk_at "i_upd")
  | ((with_reducible refine q_popL (x := ?x) (s := ?s) ?h ?_); (case h => walk_at "lift"); walk_at "i_upd")
  | ((with_reducible refine q_topL (x := ?x) (s := ?s) ?h ?_); (case h => walk_at "lift"))
  | ((with_reducible refine q_setLN (xs := ?xs) (j := ?j) ?h ?e ?_); (case h => walk_at "lift"); (case e => assumption); walk_at "i_upd"))
variable {C : Addr}
def sp_wact (C : Addr) (nm : Str) : Sp := fun vs H Q _ => ∃ (wk t : Addr) (i : Is) (q : Wa) (w w' : Ws), vs = [.ref wk, .ref t] ∧ i.nm = nm ∧ H t = some (.tup i.vals) ∧ Does i w w' ∧ WAt C H wk q w ∧ w.sk.length < 80000 ∧ ∀ H', Kp [wk, q.ce, q.sk] H H' → WAt C H' wk q w' → Q .non H'
theorem c_wact {nm : Str} {wk t : Addr} {i : Is} {q : Wa} {w w' : Ws} {H : Hp} {Q : VK} {E : XK} (h1 : i.nm = nm) (h2 : H t = some (.tup i.vals)) (h3 : Does i w w') (h4 : WAt C H wk q w) (h5 : w.sk.length < 80000) (k : ∀ H', Kp [wk, q.ce, q.sk] H H' → WAt C H' wk q w' → Q .non H') : sp_wact C nm [.ref wk, .ref t] H Q E := ⟨wk, t, i, q, w, w', rfl, h1, h2, h3, h4, h5, k⟩
theorem sp_wact_len {nm : Str} {vs : List V} {H : Hp} {Q : VK} {E : XK} (h : sp_wact C nm vs H Q E) : vs.length = 2 := by
  obtain ⟨_, _, _, _, _, _, rfl, _⟩ := h
  rfl
theorem ok_push (T : Glo K w mg) (W : WkK K C) (D : Dn K mg "step_push" s_step_push p_step_push) : Cal P w K mg base "step_push" 1 p_step_push (sp_wact C "push") := by
  obtain ⟨hc, n1, n2, n3, n4, n5, n6, n7, n8, n9⟩ := W
  refine D.ok sc_step_push (fun vs H Q E h => sp_wact_len h) (fun f cdv A outer s H vs Q E hr h => ?_)
  obtain ⟨wk, t, i, q, w, w', rfl, hn, ht, d, ⟨hob, hce, hsk, hne⟩, hz, k⟩ := h
  refine ⟨_, (pss_one (ps_expr (pe_bm PySem.F.plainAttrs_list PySem.F.slot_list_append PySem.F.type_list_append mt_append (pe_fld (pv 0) rfl) (pa_cons (pe_ix ix_seq (pv 1) pe_int (fun _ _ => rfl)) pa_nil)))), ?_⟩
  try dsimp only [cxOf, Cx.nox]
  have nkw : q.sk ≠ wk := ne_knd hsk hob (by intro z; cases z)
  have ncw : q.ce ≠ wk := ne_knd hce hob (by intro z; cases z)
  simp only [wfl] at hob
  cases d <;> first | (cases hn; done) | skip
  simp only [Is.vals] at ht
  dsimp only at hob hce hsk hz
  repeat' walk_at "st"
  exact k _ (by walk_at "kpx") ⟨by walk_at "lift", by walk_at "lift", hu, hne⟩
theorem getD_at {cs : List Int} {j : Nat} (h : j < cs.length) : atI (cs.map V.int) ((j : Nat) : Int) = some (.int (cs.getD j 0)) := atI_nat (by rw [List.getElem?_map, List.getD_eq_getElem?_getD, List.getElem?_eq_getElem h]; rfl)
theorem ixN_at {cs : List Int} {j : Nat} (h : j < cs.length) : ixN (cs.map V.int).length ((j : Nat) : Int) = some j := by
  unfold ixN
  rw [List.length_map, if_pos (by omega), if_pos (by omega), Int.toNat_natCast]
theorem ok_load (T : Glo K w mg) (W : WkK K C) (D : Dn K mg "step_load" s_step_load p_step_load) : Cal P w K mg base "step_load" 1 p_step_load (sp_wact C "load") := by
  obtain ⟨hc, n1, n2, n3, n4, n5, n6, n7, n8, n9⟩ := W
  refine D.ok sc_step_load (fun vs H Q E h => sp_wact_len h) (fun f cdv A outer s H vs Q E hr h => ?_)
  obtain ⟨wk, t, i, q, w, w', rfl, hn, ht, d, wa, hz, k⟩ := h
  have wa0 := wa
  obtain ⟨hob, hce, hsk, hne⟩ := wa
  refine ⟨_, (pss_one (ps_expr (pe_bm PySem.F.plainAttrs_list PySem.F.slot_list_append PySem.F.type_list_append mt_append (pe_fld (pv 0) rfl) (pa_cons (pe_ix ix_seq (pe_fld (pv 0) rfl) (pe_ix ix_seq (pv 1) pe_int (fun _ _ => rfl)) (fun _ _ => rfl)) pa_nil)))), ?_⟩
  try dsimp only [cxOf, Cx.nox]
  have nkw : q.sk ≠ wk := ne_knd hsk hob (by intro z; cases z)
  have ncw : q.ce ≠ wk := ne_knd hce hob (by intro z; cases z)
  simp only [wfl] at hob
  cases d <;> first | (cases hn; done) | skip
  · simp only [Is.vals] at ht
    dsimp only at hob hce hsk hz
    try simp only [List.length_cons] at hz
    have e1 := getD_at (by assumption)
    repeat' walk_at "st"
    exact k _ (by walk_at "kpx") ⟨by walk_at "lift", by walk_at "lift", by walk_at "lift", hne⟩
theorem ok_store (T : Glo K w mg) (W : WkK K C) (D : Dn K mg "step_store" s_step_store p_step_store) : Cal P w K mg base "step_store" 1 p_step_store (sp_wact C "store") := by
  obtain ⟨hc, n1, n2, n3, n4, n5, n6, n7, n8, n9⟩ := W
  refine D.ok sc_step_store (fun vs H Q E h => sp_wact_len h) (fun f cdv A outer s H vs Q E hr h => ?_)
  obtain ⟨wk, t, i, q, w, w', rfl, hn, ht, d, wa, hz, k⟩ := h
  have wa0 := wa
  obtain ⟨hob, hce, hsk, hne⟩ := wa
  refine ⟨_, (pss_one (ps_asg (pe_bm0 PySem.F.plainAttrs_list PySem.F.slot_list_pop PySem.F.type_list_pop mt_pop (pe_fld (pv 0) rfl)) (pg_sub (pe_fld (pv 0) rfl) (pe_ix ix_seq (pv 1) pe_int (fun _ _ => rfl)) set_list))), ?_⟩
  try dsimp only [cxOf, Cx.nox]
  have nkw : q.sk ≠ wk := ne_knd hsk hob (by intro z; cases z)
  have ncw : q.ce ≠ wk := ne_knd hce hob (by intro z; cases z)
  simp only [wfl] at hob
  cases d <;> first | (cases hn; done) | skip
  · simp only [Is.vals] at ht
    dsimp only at hob hce hsk hz
    try simp only [List.length_cons] at hz
    have e1 := ixN_at (by assumption)
    repeat' walk_at "st"
    rw [← List.map_set] at hu
    exact k _ (by walk_at "kpx") ⟨by walk_at "lift", by walk_at "lift", by walk_at "lift", hne⟩
def sp_fits (C : Addr) : Sp := fun vs H Q _ => ∃ (wk : Addr) (q : Wa) (cs s : List Int) (a i sz : Int) (t : Str), vs = [.ref wk, .int sz] ∧ WAt C H wk q ⟨cs, i :: s, a, t⟩ ∧ (i < sz → Q (.bl true) H) ∧ (sz ≤ i → ∀ H', Kp [wk] H H' → WAt C H' wk q ⟨cs, i :: s, a, "faulted"⟩ → Q (.bl false) H')
theorem c_fits {wk : Addr} {q : Wa} {cs s : List Int} {a i sz : Int} {t : Str} {H : Hp} {Q : VK} {E : XK} (h : WAt C H wk q ⟨cs, i :: s, a, t⟩) (q1 : i < sz → Q (.bl true) H) (q2 : sz ≤ i → ∀ H', Kp [wk] H H' → WAt C H' wk q ⟨cs, i :: s, a, "faulted"⟩ → Q (.bl false) H') : sp_fits C [.ref wk, .int sz] H Q E := ⟨wk, q, cs, s, a, i, sz, t, rfl, h, q1, q2⟩
theorem ok_fits (T : Glo K w mg) (W : WkK K C) (D : Dn K mg "index_fits" s_index_fits p_index_fits) : Cal P w K mg base "index_fits" 1 p_index_fits (sp_fits C) := by
  obtain ⟨hc, n1, n2, n3, n4, n5, n6, n7, n8, n9⟩ := W
  refine D.ok sc_index_fits (fun vs H Q E h => ?_) (fun f cdv A outer s H vs Q E hr h => ?_)
  · obtain ⟨_, _, _, _, _, _, _, _, rfl, _⟩ := h
    rfl
  obtain ⟨wk, q, cs, sk, a, i, sz, t, rfl, ⟨hob, hce, hsk, hne⟩, k1, k2⟩ := h
  refine ⟨_, (pss_cons (ps_if (pt_cmpR op_ge (pe_ix ix_seq (pe_fld (pv 0) rfl) (pe_un un_neg pe_int) (fun _ _ => rfl)) (pv 1) (nomark _)) (pss_cons (ps_fld (pv 0) pe_str rfl) (pss_one (ps_ret pe_bl))) pss_nil) (pss_one (ps_ret pe_bl))), ?_⟩
  try dsimp only [cxOf, Cx.nox]
  have nkw : q.sk ≠ wk := ne_knd hsk hob (by intro z; cases z)
  have ncw : q.ce ≠ wk := ne_knd hce hob (by intro z; cases z)
  simp only [wfl] at hob
  dsimp only at hob hce hsk
  repeat' walk_at "st"
  · exact k2 (by assumption) _ ku ⟨hu, by walk_at "lift", by walk_at "lift", hne⟩
  · exact k1 (by omega)
def sp_pval (C : Addr) : Sp := fun vs H Q _ => ∃ (wk : Addr) (q : Wa) (cs s : List Int) (a : Int) (t : Str) (o : Option Int), vs = [.ref wk, optV o] ∧ WAt C H wk q ⟨cs, s, a, t⟩ ∧ s.length < 85000 ∧ ∀ H', Kp [wk, q.ce, q.sk] H H' → WAt C H' wk q (match o with | some x => ⟨cs, x :: s, a, t⟩ | none => ⟨cs, s, a, "faulted"⟩) → Q .non H'
theorem c_pval {wk : Addr} {q : Wa} {cs s : List Int} {a : Int} {t : Str} {o : Option Int} {H : Hp} {Q : VK} {E : XK} (h : WAt C H wk q ⟨cs, s, a, t⟩) (hz : s.length < 85000) (k : ∀ H', Kp [wk, q.ce, q.sk] H H' → WAt C H' wk q (match o with | some x => ⟨cs, x :: s, a, t⟩ | none => ⟨cs, s, a, "faulted"⟩) → Q .non H') : sp_pval C [.ref wk, optV o] H Q E := ⟨wk, q, cs, s, a, t, o, rfl, h, hz, k⟩
theorem ok_pval (T : Glo K w mg) (W : WkK K C) (D : Dn K mg "push_value" s_push_value p_push_value) : Cal P w K mg base "push_value" 1 p_push_value (sp_pval C) := by
  obtain ⟨hc, n1, n2, n3, n4, n5, n6, n7, n8, n9⟩ := W
  refine D.ok sc_push_value (fun vs H Q E h => ?_) (fun f cdv A outer s H vs Q E hr h => ?_)
  · obtain ⟨_, _, _, _, _, _, _, rfl, _⟩ := h
    rfl
  obtain ⟨wk, q, cs, sk, a, t, o, rfl, ⟨hob, hce, hsk, hne⟩, hz, k⟩ := h
  refine ⟨_, (pss_one (ps_if (pt_cmpR op_isN1 (pv 1) pe_non (nomark _)) (pss_one (ps_fld (pv 0) pe_str rfl)) (pss_one (ps_expr (pe_bm PySem.F.plainAttrs_list PySem.F.slot_list_append PySem.F.type_list_append mt_append (pe_fld (pv 0) rfl) (pa_cons (pv 1) pa_nil)))))), ?_⟩
  try dsimp only [cxOf, Cx.nox]
  have nkw : q.sk ≠ wk := ne_knd hsk hob (by intro z; cases z)
  have ncw : q.ce ≠ wk := ne_knd hce hob (by intro z; cases z)
  simp only [wfl] at hob
  dsimp only at hob hce hsk
  cases o with
  | none =>
    simp only [optV]
    repeat' walk_at "st"
    exact k _ (by walk_at "kpx") ⟨hu, by walk_at "lift", by walk_at "lift", hne⟩
  | some x =>
    simp only [optV]
    repeat' walk_at "st"
    exact k _ (by walk_at "kpx") ⟨by walk_at "lift", by walk_at "lift", hu, hne⟩
theorem ok_loadx (T : Glo K w mg) (W : WkK K C) (D : Dn K mg "step_loadx" s_step_loadx p_step_loadx) (G_index_fits : Cal P w K mg base "index_fits" 1 p_index_fits (sp_fits C)) : Cal P w K mg base "step_loadx" 2 p_step_loadx (sp_wact C "loadx") := by
  obtain ⟨hc, n1, n2, n3, n4, n5, n6, n7, n8, n9⟩ := W
  refine D.ok sc_step_loadx (fun vs H Q E h => sp_wact_len h) (fun f cdv A outer s H vs Q E hr h => ?_)
  obtain ⟨wk, t, i, q, w, w', rfl, hn, ht, d, wa, hz, k⟩ := h
  have wa0 := wa
  obtain ⟨hob, hce, hsk, hne⟩ := wa
  refine ⟨_, (pss_cons (ps_asg (pv 1) (pg_tup rfl (pgs_cons (pg_name (i := 2) sc_step_loadx.nd rfl (by first | exact Or.inl rfl | exact Or.inr rfl)) (pgs_cons (pg_name (i := 3) sc_step_loadx.nd rfl (by first | exact Or.inl rfl | exact Or.inr rfl)) (pgs_cons (pg_name (i := 4) sc_step_loadx.nd rfl (by first | exact Or.inl rfl | exact Or.inr rfl)) pgs_nil))))) (pss_one (ps_if (pt_val (pe_cal G_index_fits (hr.mono (by walk_at "lev")) rfl (pa_cons (pv 0) (pa_cons (pv 4) pa_nil)))) (pss_cons (ps_set (i := 5) sc_step_loadx.nd rfl (by first | exact Or.inl rfl | exact Or.inr rfl) (pe_bm0 PySem.F.plainAttrs_list PySem.F.slot_list_pop PySem.F.type_list_pop mt_pop (pe_fld (pv 0) rfl))) (pss_one (ps_expr (pe_bm PySem.F.plainAttrs_list PySem.F.slot_list_append PySem.F.type_list_append mt_append (pe_fld (pv 0) rfl) (pa_cons (pe_ix ix_seq (pe_fld (pv 0) rfl) (pe_op op_addA (pv 3) (pv 5)) (fun _ _ => rfl)) pa_nil))))) pss_nil))), ?_⟩
  try dsimp only [cxOf, Cx.nox]
  have nkw : q.sk ≠ wk := ne_knd hsk hob (by intro z; cases z)
  have ncw : q.ce ≠ wk := ne_knd hce hob (by intro z; cases z)
  simp only [wfl] at hob
  cases d <;> first | (cases hn; done) | skip
  · simp only [Is.vals] at ht
    dsimp only at hob hce hsk hz
    try simp only [List.length_cons] at hz
    have e1 := getD_at (by assumption)
    rename_i j i sz cs s2 a t2 hi hj
    have e2 : ((j : Nat) : Int) + ((i : Nat) : Int) = ((j + i : Nat) : Int) := by omega
    rw [← e2] at e1
    repeat' walk_at "st"
    refine c_fits wa0 (fun _ => ?_) (fun z => absurd z (by omega))
    repeat' walk_at "st"
    exact k _ (by walk_at "kpx") ⟨by walk_at "lift", by walk_at "lift", by walk_at "lift", hne⟩
  · simp only [Is.vals] at ht
    dsimp only at hob hce hsk hz
    try simp only [List.length_cons] at hz
    repeat' walk_at "st"
    refine c_fits wa0 (fun z => absurd z (by omega)) (fun _ H' k1 w1 => ?_)
    repeat' walk_at "st"
    exact k _ (by walk_at "kpx") w1
theorem ok_storex (T : Glo K w mg) (W : WkK K C) (D : Dn K mg "step_storex" s_step_storex p_step_storex) (G_index_fits : Cal P w K mg base "index_fits" 1 p_index_fits (sp_fits C)) : Cal P w K mg base "step_storex" 2 p_step_storex (sp_wact C "storex") := by
  obtain ⟨hc, n1, n2, n3, n4, n5, n6, n7, n8, n9⟩ := W
  refine D.ok sc_step_storex (fun vs H Q E h => sp_wact_len h) (fun f cdv A outer s H vs Q E hr h => ?_)
  obtain ⟨wk, t, i, q, w, w', rfl, hn, ht, d, wa, hz, k⟩ := h
  have wa0 := wa
  obtain ⟨hob, hce, hsk, hne⟩ := wa
  refine ⟨_, (pss_cons (ps_asg (pv 1) (pg_tup rfl (pgs_cons (pg_name (i := 2) sc_step_storex.nd rfl (by first | exact Or.inl rfl | exact Or.inr rfl)) (pgs_cons (pg_name (i := 3) sc_step_storex.nd rfl (by first | exact Or.inl rfl | exact Or.inr rfl)) (pgs_cons (pg_name (i := 4) sc_step_storex.nd rfl (by first | exact Or.inl rfl | exact Or.inr rfl)) pgs_nil))))) (pss_one (ps_if (pt_val (pe_cal G_index_fits (hr.mono (by walk_at "lev")) rfl (pa_cons (pv 0) (pa_cons (pv 4) pa_nil)))) (pss_cons (ps_set (i := 5) sc_step_storex.nd rfl (by first | exact Or.inl rfl | exact Or.inr rfl) (pe_bm0 PySem.F.plainAttrs_list PySem.F.slot_list_pop PySem.F.type_list_pop mt_pop (pe_fld (pv 0) rfl))) (pss_one (ps_asg (pe_bm0 PySem.F.plainAttrs_list PySem.F.slot_list_pop PySem.F.type_list_pop mt_pop (pe_fld (pv 0) rfl)) (pg_sub (pe_fld (pv 0) rfl) (pe_op op_addA (pv 3) (pv 5)) set_list)))) pss_nil))), ?_⟩
  try dsimp only [cxOf, Cx.nox]
  have nkw : q.sk ≠ wk := ne_knd hsk hob (by intro z; cases z)
  have ncw : q.ce ≠ wk := ne_knd hce hob (by intro z; cases z)
  simp only [wfl] at hob
  cases d <;> first | (cases hn; done) | skip
  · simp only [Is.vals] at ht
    dsimp only at hob hce hsk hz
    try simp only [List.length_cons] at hz
    have e1 := ixN_at (by assumption)
    rename_i j i x sz cs s2 a t2 hi hj
    have e2 : ((j : Nat) : Int) + ((i : Nat) : Int) = ((j + i : Nat) : Int) := by omega
    rw [← e2] at e1
    repeat' walk_at "st"
    refine c_fits wa0 (fun _ => ?_) (fun z => absurd z (by omega))
    repeat' walk_at "st"
    rw [← List.map_set] at hu
    exact k _ (by walk_at "kpx") ⟨by walk_at "lift", by walk_at "lift", by walk_at "lift", hne⟩
  · simp only [Is.vals] at ht
    dsimp only at hob hce hsk hz
    try simp only [List.length_cons] at hz
    repeat' walk_at "st"
    refine c_fits wa0 (fun z => absurd z (by omega)) (fun _ H' k1 w1 => ?_)
    repeat' walk_at "st"
    exact k _ (by walk_at "kpx") w1
theorem ok_check (T : Glo K w mg) (W : WkK K C) (D : Dn K mg "step_check" s_step_check p_step_check) (G_index_fits : Cal P w K mg base "index_fits" 1 p_index_fits (sp_fits C)) : Cal P w K mg base "step_check" 2 p_step_check (sp_wact C "check") := by
  obtain ⟨hc, n1, n2, n3, n4, n5, n6, n7, n8, n9⟩ := W
  refine D.ok sc_step_check (fun vs H Q E h => sp_wact_len h) (fun f cdv A outer s H vs Q E hr h => ?_)
  obtain ⟨wk, t, i, q, w, w', rfl, hn, ht, d, wa, hz, k⟩ := h
  have wa0 := wa
  obtain ⟨hob, hce, hsk, hne⟩ := wa
  refine ⟨_, (pss_one (ps_expr (pe_cal G_index_fits (hr.mono (by walk_at "lev")) rfl (pa_cons (pv 0) (pa_cons (pe_ix ix_seq (pv 1) pe_int (fun _ _ => rfl)) pa_nil))))), ?_⟩
  try dsimp only [cxOf, Cx.nox]
  have nkw : q.sk ≠ wk := ne_knd hsk hob (by intro z; cases z)
  have ncw : q.ce ≠ wk := ne_knd hce hob (by intro z; cases z)
  simp only [wfl] at hob
  cases d <;> first | (cases hn; done) | skip
  · simp only [Is.vals] at ht
    dsimp only at hob hce hsk hz
    try simp only [List.length_cons] at hz
    repeat' walk_at "st"
    refine c_fits wa0 (fun _ => ?_) (fun z => absurd z (by omega))
    repeat' walk_at "st"
    exact k _ (by walk_at "kpx") wa0
  · simp only [Is.vals] at ht
    dsimp only at hob hce hsk hz
    try simp only [List.length_cons] at hz
    repeat' walk_at "st"
    refine c_fits wa0 (fun z => absurd z (by omega)) (fun _ H' k1 w1 => ?_)
    repeat' walk_at "st"
    exact k _ (by walk_at "kpx") w1
theorem ok_jump (T : Glo K w mg) (W : WkK K C) (D : Dn K mg "step_jump" s_step_jump p_step_jump) : Cal P w K mg base "step_jump" 1 p_step_jump (sp_wact C "jump") := by
  obtain ⟨hc, n1, n2, n3, n4, n5, n6, n7, n8, n9⟩ := W
  refine D.ok sc_step_jump (fun vs H Q E h => sp_wact_len h) (fun f cdv A outer s H vs Q E hr h => ?_)
  obtain ⟨wk, t, i, q, w, w', rfl, hn, ht, d, wa, hz, k⟩ := h
  have wa0 := wa
  obtain ⟨hob, hce, hsk, hne⟩ := wa
  refine ⟨_, (pss_one (ps_fld (pv 0) (pe_ix ix_seq (pv 1) pe_int (fun _ _ => rfl)) rfl)), ?_⟩
  try dsimp only [cxOf, Cx.nox]
  have nkw : q.sk ≠ wk := ne_knd hsk hob (by intro z; cases z)
  have ncw : q.ce ≠ wk := ne_knd hce hob (by intro z; cases z)
  simp only [wfl] at hob
  cases d <;> first | (cases hn; done) | skip
  · simp only [Is.vals] at ht
    dsimp only at hob hce hsk hz
    try simp only [List.length_cons] at hz
    repeat' walk_at "st"
    exact k _ (by walk_at "kpx") ⟨by walk_at "lift", by walk_at "lift", by walk_at "lift", hne⟩
theorem ok_jzero (T : Glo K w mg) (W : WkK K C) (D : Dn K mg "step_jzero" s_step_jzero p_step_jzero) : Cal P w K mg base "step_jzero" 1 p_step_jzero (sp_wact C "jzero") := by
  obtain ⟨hc, n1, n2, n3, n4, n5, n6, n7, n8, n9⟩ := W
  refine D.ok sc_step_jzero (fun vs H Q E h => sp_wact_len h) (fun f cdv A outer s H vs Q E hr h => ?_)
  obtain ⟨wk, t, i, q, w, w', rfl, hn, ht, d, wa, hz, k⟩ := h
  have wa0 := wa
  obtain ⟨hob, hce, hsk, hne⟩ := wa
  refine ⟨_, (pss_one (ps_if (pt_cmpR (op_eqA (hu64 hr)) (pe_bm0 PySem.F.plainAttrs_list PySem.F.slot_list_pop PySem.F.type_list_pop mt_pop (pe_fld (pv 0) rfl)) pe_int (nomark _)) (pss_one (ps_fld (pv 0) (pe_ix ix_seq (pv 1) pe_int (fun _ _ => rfl)) rfl)) pss_nil)), ?_⟩
  try dsimp only [cxOf, Cx.nox]
  have nkw : q.sk ≠ wk := ne_knd hsk hob (by intro z; cases z)
  have ncw : q.ce ≠ wk := ne_knd hce hob (by intro z; cases z)
  simp only [wfl] at hob
  cases d <;> first | (cases hn; done) | skip
  · simp only [Is.vals] at ht
    dsimp only at hob hce hsk hz
    try simp only [List.length_cons] at hz
    repeat' walk_at "st"
    exact k _ (by walk_at "kpx") ⟨by walk_at "lift", by walk_at "lift", by walk_at "lift", hne⟩
  · simp only [Is.vals] at ht
    dsimp only at hob hce hsk hz
    try simp only [List.length_cons] at hz
    repeat' walk_at "st"
    · exact absurd (by assumption) ‹_ ≠ (0 : Int)›
    · exact k _ (by walk_at "kpx") ⟨by walk_at "lift", by walk_at "lift", by walk_at "lift", hne⟩
theorem ok_stop (T : Glo K w mg) (W : WkK K C) (D : Dn K mg "step_stop" s_step_stop p_step_stop) : Cal P w K mg base "step_stop" 1 p_step_stop (sp_wact C "stop") := by
  obtain ⟨hc, n1, n2, n3, n4, n5, n6, n7, n8, n9⟩ := W
  refine D.ok sc_step_stop (fun vs H Q E h => sp_wact_len h) (fun f cdv A outer s H vs Q E hr h => ?_)
  obtain ⟨wk, t, i, q, w, w', rfl, hn, ht, d, wa, hz, k⟩ := h
  have wa0 := wa
  obtain ⟨hob, hce, hsk, hne⟩ := wa
  refine ⟨_, (pss_one (ps_fld (pv 0) pe_str rfl)), ?_⟩
  try dsimp only [cxOf, Cx.nox]
  have nkw : q.sk ≠ wk := ne_knd hsk hob (by intro z; cases z)
  have ncw : q.ce ≠ wk := ne_knd hce hob (by intro z; cases z)
  simp only [wfl] at hob
  cases d <;> first | (cases hn; done) | skip
  · simp only [Is.vals] at ht
    dsimp only at hob hce hsk hz
    try simp only [List.length_cons] at hz
    repeat' walk_at "st"
    exact k _ (by walk_at "kpx") ⟨by walk_at "lift", by walk_at "lift", by walk_at "lift", hne⟩
theorem ok_oper (T : Glo K w mg) (W : WkK K C) (nm : Str) (hnm : nm = "neg" ∨ nm = "not") (D : Dn K mg "step_operation" s_step_operation p_step_operation) (G_push_value : Cal P w K mg base "push_value" 1 p_push_value (sp_pval C)) (G_operate : Cal P w K mg base "operate" 2 p_operate sp_operate) : Cal P w K mg base "step_operation" 3 p_step_operation (sp_wact C nm) := by
  obtain ⟨hc, n1, n2, n3, n4, n5, n6, n7, n8, n9⟩ := W
  refine D.ok sc_step_operation (fun vs H Q E h => sp_wact_len h) (fun f cdv A outer s H vs Q E hr h => ?_)
  obtain ⟨wk, t, i, q, w, w', rfl, hn, ht, d, wa, hz, k⟩ := h
  obtain ⟨hob, hce, hsk, hne⟩ := wa
  refine ⟨_, (pss_one (ps_expr (pe_cal G_push_value (hr.mono (by walk_at "lev")) rfl (pa_cons (pv 0) (pa_cons (pe_cal G_operate (hr.mono (by walk_at "lev")) rfl (pa_cons (pe_ix ix_seq (pv 1) pe_int (fun _ _ => rfl)) (pa_cons (pe_bm0 PySem.F.plainAttrs_list PySem.F.slot_list_pop PySem.F.type_list_pop mt_pop (pe_fld (pv 0) rfl)) pa_nil))) pa_nil))))), ?_⟩
  try dsimp only [cxOf, Cx.nox]
  have nkw : q.sk ≠ wk := ne_knd hsk hob (by intro z; cases z)
  have ncw : q.ce ≠ wk := ne_knd hce hob (by intro z; cases z)
  have hob0 := hob
  simp only [wfl] at hob
  subst hn
  cases d <;> first | (exact absurd hnm (by simp only [Is.nm]; decide +kernel)) | skip
  · simp only [Is.vals] at ht
    dsimp only at hob hob0 hce hsk hz
    try simp only [List.length_cons] at hz
    rename_i x cs s2 a t2 hx
    repeat' walk_at "st"
    refine c_operate (b := true) (i := some x) (fun y hy => by cases hy; exact hx) ?_
    repeat' walk_at "st"
    refine c_pval (o := some (-x % 65536)) (cs := cs) (s := s2) (a := a) (t := t2) ⟨by walk_at "lift", by walk_at "lift", hu, hne⟩ (by omega) (fun H' k1 w1 => ?_)
    exact k _ (by walk_at "kpx") w1
  · simp only [Is.vals] at ht
    dsimp only at hob hob0 hce hsk hz
    try simp only [List.length_cons] at hz
    rename_i x cs s2 a t2 hx
    repeat' walk_at "st"
    refine c_operate (b := false) (i := some x) (fun y hy => by cases hy; exact hx) ?_
    repeat' walk_at "st"
    refine c_pval (o := some (b2 (decide (x = 0)))) (cs := cs) (s := s2) (a := a) (t := t2) ⟨by walk_at "lift", by walk_at "lift", hu, hne⟩ (by omega) (fun H' k1 w1 => ?_)
    exact k _ (by walk_at "kpx") w1
theorem ok_scalc (T : Glo K w mg) (W : WkK K C) (D : Dn K mg "step_calc" s_step_calc p_step_calc) (G_push_value : Cal P w K mg base "push_value" 1 p_push_value (sp_pval C)) (G_calculate : Cal P w K mg base "calculate" 2 p_calculate sp_calc) : Cal P w K mg base "step_calc" 3 p_step_calc (sp_wact C "calc") := by
  obtain ⟨hc, n1, n2, n3, n4, n5, n6, n7, n8, n9⟩ := W
  refine D.ok sc_step_calc (fun vs H Q E h => sp_wact_len h) (fun f cdv A outer s H vs Q E hr h => ?_)
  obtain ⟨wk, t, i, q, w, w', rfl, hn, ht, d, wa, hz, k⟩ := h
  obtain ⟨hob, hce, hsk, hne⟩ := wa
  refine ⟨_, (pss_cons (ps_set (i := 2) sc_step_calc.nd rfl (by first | exact Or.inl rfl | exact Or.inr rfl) (pe_bm0 PySem.F.plainAttrs_list PySem.F.slot_list_pop PySem.F.type_list_pop mt_pop (pe_fld (pv 0) rfl))) (pss_cons (ps_set (i := 3) sc_step_calc.nd rfl (by first | exact Or.inl rfl | exact Or.inr rfl) (pe_bm0 PySem.F.plainAttrs_list PySem.F.slot_list_pop PySem.F.type_list_pop mt_pop (pe_fld (pv 0) rfl))) (pss_one (ps_expr (pe_cal G_push_value (hr.mono (by walk_at "lev")) rfl (pa_cons (pv 0) (pa_cons (pe_cal G_calculate (hr.mono (by walk_at "lev")) rfl (pa_cons (pe_ix ix_seq (pv 1) pe_int (fun _ _ => rfl)) (pa_cons (pv 3) (pa_cons (pv 2) pa_nil)))) pa_nil))))))), ?_⟩
  try dsimp only [cxOf, Cx.nox]
  have nkw : q.sk ≠ wk := ne_knd hsk hob (by intro z; cases z)
  have ncw : q.ce ≠ wk := ne_knd hce hob (by intro z; cases z)
  have hob0 := hob
  simp only [wfl] at hob
  cases d <;> first | (cases hn; done) | skip
  · simp only [Is.vals] at ht
    dsimp only at hob hob0 hce hsk hz
    try simp only [List.length_cons] at hz
    rename_i o x y z cs s2 a t2 hx hy hv
    repeat' walk_at "st"
    refine c_calc hx hy ?_
    rw [hv]
    repeat' walk_at "st"
    refine c_pval (o := some z) (cs := cs) (s := s2) (a := a) (t := t2) ⟨by walk_at "lift", by walk_at "lift", by walk_at "lift", hne⟩ (by omega) (fun H' k1 w1 => ?_)
    exact k _ (by walk_at "kpx") w1
  · simp only [Is.vals] at ht
    dsimp only at hob hob0 hce hsk hz
    try simp only [List.length_cons] at hz
    rename_i o x y cs s2 a t2 hx hy hv
    repeat' walk_at "st"
    refine c_calc hx hy ?_
    rw [hv]
    repeat' walk_at "st"
    refine c_pval (o := none) (cs := cs) (s := s2) (a := a) (t := t2) ⟨by walk_at "lift", by walk_at "lift", by walk_at "lift", hne⟩ (by omega) (fun H' k1 w1 => ?_)
    exact k _ (by walk_at "kpx") w1
def rKd (K : PySem.W.Frag) (w : World) : R2 := rIxD K w
theorem ix_kdA {X : Cx} : IxR X (rKd X.K X.w) := ix_kdict
theorem q_kd {K : PySem.W.Frag} {w : World} {H : Hp} {Q : VK} {p : Addr} {z : Str} {v : V} (h : KDct K w p z v) (q : Q v H) : rKd K w (.ref p) (.str z) H Q := ⟨p, z, v, rfl, rfl, h, q⟩
theorem pe_globR {X : Cx} {x : Str} {a : Addr} {pos : Pos} (hg : Gl X x) (hm : X.mg x = some (.ref a)) (hd : (x == ("__debug__" : Str)) = false := by decide) : PE X (.Name x pos) (tC (.ref a)) := pe_glob hg hm rfl hd
def mt_indexA {X : Cx} : MtR X "list.index" (rIndex X.K) := mt_index
/-- whether a written dict has a text as a key -/
def KHas (K : PySem.W.Frag) (w : World) (a : Addr) (x : Str) (b : Bool) : Prop := (a == sysModules) = false ∧ ∃ es n o, K.lookup a = some ⟨.type "dict", none, .dict es n, #[]⟩ ∧ PySem.W.KeysLit w.params es.toList ∧ PySem.W.nsIn K a x = some o ∧ o.isSome = b
def rNotInKd (K : PySem.W.Frag) (w : World) : R2 := fun x y H Q => ∃ p z b, y = .ref p ∧ x = .str z ∧ KHas K w p z b ∧ Q (.bl (!b)) H
theorem op_notInKd {X : Cx} : OpR X (compareOp .NotIn) (rNotInKd X.K X.w) := by
  intro pins s σ H x y v u Q I rx ry h
  obtain ⟨p, z, b, rfl, rfl, ⟨low, es, n, o, hl, hk, e, hb⟩, q⟩ := h
  obtain rfl : u = Value.ref p := ry
  obtain ⟨t, rfl⟩ := rx
  have hm := PySem.W.mapOf_K (prog := X.prog) (w := X.w) I.kIn hl hk
  refine wpAny_notIn_of (strKind_is X.prog X.w z t) low hm ?_
  rw [PySem.W.find_K hl e, hb]
  exact ⟨.bl (!b), H, I.tok _, rfl, q⟩
theorem q_notInKd {K : PySem.W.Frag} {w : World} {H : Hp} {Q : VK} {p : Addr} {z : Str} {b : Bool} (h : KHas K w p z b) (q : Q (.bl (!b)) H) : rNotInKd K w (.str z) (.ref p) H Q := ⟨p, z, b, rfl, rfl, h, q⟩
def tabS (K : PySem.W.Frag) (w : World) (mg : Str → Option Value) (x fn : Str) : Prop := ∃ a f, mg "STEPS" = some (.ref a) ∧ KDct K w a x (.ref f) ∧ mg fn = some (.ref f) ∧ KHas K w a x true
def misS (K : PySem.W.Frag) (w : World) (mg : Str → Option Value) (x : Str) : Prop := ∃ a, mg "STEPS" = some (.ref a) ∧ KHas K w a x false
def Steps (K : PySem.W.Frag) (w : World) (mg : Str → Option Value) : Prop := tabS K w mg "push" "step_push" ∧ tabS K w mg "load" "step_load" ∧ tabS K w mg "store" "step_store" ∧ tabS K w mg "loadx" "step_loadx" ∧ tabS K w mg "storex" "step_storex" ∧ tabS K w mg "check" "step_check" ∧ tabS K w mg "neg" "step_operation" ∧ tabS K w mg "not" "step_operation" ∧ tabS K w mg "calc" "step_calc" ∧ tabS K w mg "jump" "step_jump" ∧ tabS K w mg "jzero" "step_jzero" ∧ tabS K w mg "stop" "step_stop" ∧ misS K w mg "give" ∧ misS K w mg "take" ∧ misS K w mg "either" ∧ misS K w mg "fork" ∧ misS K w mg "end"
def MISS : List Str := ["give", "take", "either", "fork", "end"]
variable {C : Addr}
def sp_wstep (C : Addr) : Sp := fun vs H Q _ => ∃ (wk t : Addr), vs = [.ref wk, .ref t] ∧ ((∃ (i : Is) (q : Wa) (w w' : Ws), H t = some (.tup i.vals) ∧ Does i w w' ∧ WAt C H wk q w ∧ w.sk.length < 80000 ∧ ∀ H', Kp [wk, q.ce, q.sk] H H' → WAt C H' wk q w' → Q (.bl true) H') ∨ ∃ (nm : Str) (rest : List V), nm ∈ MISS ∧ H t = some (.tup (.str nm :: rest)) ∧ Q (.bl false) H)
theorem ok_wstep (T : Glo K w mg) (SD : Steps K w mg) (D : DnM K C "step" "Workspace.step" s_Workspace_step p_Workspace_step) (G_push : Cal P w K mg base "step_push" 1 p_step_push (sp_wact C "push")) (G_load : Cal P w K mg base "step_load" 1 p_step_load (sp_wact C "load")) (G_store : Cal P w K mg base "step_store" 1 p_step_store (sp_wact C "store")) (G_loadx : Cal P w K mg base "step_loadx" 2 p_step_loadx (sp_wact C "loadx")) (G_storex : Cal P w K mg base "step_storex" 2 p_step_storex (sp_wact C "storex")) (G_check : Cal P w K mg base "step_check" 2 p_step_check (sp_wact C "check")) (G_calc : Cal P w K mg base "step_calc" 3 p_step_calc (sp_wact C "calc")) (G_jump : Cal P w K mg base "step_jump" 1 p_step_jump (sp_wact C "jump")) (G_jzero : Cal P w K mg base "step_jzero" 1 p_step_jzero (sp_wact C "jzero")) (G_stop : Cal P w K mg base "step_stop" 1 p_step_stop (sp_wact C "stop")) (G_neg : Cal P w K mg base "step_operation" 3 p_step_operation (sp_wact C "neg")) (G_not : Cal P w K mg base "step_operation" 3 p_step_operation (sp_wact C "not")) : MetC P w K mg base C "step" 4 p_Workspace_step (sp_wstep C) := by
  refine D.ok sc_Workspace_step (fun vs H Q E h => ?_) (fun f cdv A outer s H vs Q E hr h => ?_)
  · obtain ⟨_, _, rfl, _⟩ := h
    rfl
  obtain ⟨wk, t, rfl, h⟩ := h
  obtain ⟨t_push, t_load, t_store, t_loadx, t_storex, t_check, t_neg, t_not, t_calc, t_jump, t_jzero, t_stop, m_give, m_take, m_either, m_fork, m_end⟩ := SD
  rcases h with ⟨i, q, w, w', ht, d, wa, hz, k⟩ | ⟨nm, rest, hm, ht, k⟩
  · cases i
    case push =>
      obtain ⟨fa, fd, F_act, m_act, K_act, B_act⟩ := G_push
      obtain ⟨aD, fD, g_STEPS, kD, mD, hD⟩ := t_push
      have efs : fD = fa := by
        rw [mD] at m_act
        cases m_act
        rfl
      subst efs
      refine ⟨_, (pss_cons (ps_if (pt_cmpR op_notInKd (pe_ix ix_seq (pv 1) pe_int (fun _ _ => rfl)) (pe_globR rfl g_STEPS) (by rfl)) (pss_one (ps_ret pe_bl)) pss_nil) (pss_cons (ps_set (i := 2) sc_Workspace_step.nd rfl (by first | exact Or.inl rfl | exact Or.inr rfl) (pe_ix ix_kdA (pe_globR rfl g_STEPS) (pe_ix ix_seq (pv 1) pe_int (fun _ _ => rfl)) (fun _ _ => rfl))) (pss_cons (ps_expr (pe_callL F_act (hr.mono (by walk_at "lev")) (i := 2) rfl (.inl rfl) K_act B_act .nil pass0 (pa_cons (pv 0) (pa_cons (pv 1) pa_nil)))) (pss_one (ps_ret pe_bl))))), ?_⟩
      try dsimp only [cxOf, Cx.nox]
      have ht' := ht
      simp only [Is.vals] at ht
      repeat' walk_at "st"
      refine q_notInKd hD ?_
      repeat' walk_at "st"
      refine q_kd kD ?_
      repeat' walk_at "st"
      refine ⟨rfl, ?_⟩
      repeat' walk_at "st"
      refine c_wact rfl ht' d wa hz (fun H' k1 w1 => ?_)
      repeat' walk_at "st"
      exact k _ k1 w1
    case load =>
      obtain ⟨fa, fd, F_act, m_act, K_act, B_act⟩ := G_load
      obtain ⟨aD, fD, g_STEPS, kD, mD, hD⟩ := t_load
      have efs : fD = fa := by
        rw [mD] at m_act
        cases m_act
        rfl
      subst efs
      refine ⟨_, (pss_cons (ps_if (pt_cmpR op_notInKd (pe_ix ix_seq (pv 1) pe_int (fun _ _ => rfl)) (pe_globR rfl g_STEPS) (by rfl)) (pss_one (ps_ret pe_bl)) pss_nil) (pss_cons (ps_set (i := 2) sc_Workspace_step.nd rfl (by first | exact Or.inl rfl | exact Or.inr rfl) (pe_ix ix_kdA (pe_globR rfl g_STEPS) (pe_ix ix_seq (pv 1) pe_int (fun _ _ => rfl)) (fun _ _ => rfl))) (pss_cons (ps_expr (pe_callL F_act (hr.mono (by walk_at "lev")) (i := 2) rfl (.inl rfl) K_act B_act .nil pass0 (pa_cons (pv 0) (pa_cons (pv 1) pa_nil)))) (pss_one (ps_ret pe_bl))))), ?_⟩
      try dsimp only [cxOf, Cx.nox]
      have ht' := ht
      simp only [Is.vals] at ht
      repeat' walk_at "st"
      refine q_notInKd hD ?_
      repeat' walk_at "st"
      refine q_kd kD ?_
      repeat' walk_at "st"
      refine ⟨rfl, ?_⟩
      repeat' walk_at "st"
      refine c_wact rfl ht' d wa hz (fun H' k1 w1 => ?_)
      repeat' walk_at "st"
      exact k _ k1 w1
    case store =>
      obtain ⟨fa, fd, F_act, m_act, K_act, B_act⟩ := G_store
      obtain ⟨aD, fD, g_STEPS, kD, mD, hD⟩ := t_store
      have efs : fD = fa := by
        rw [mD] at m_act
        cases m_act
        rfl
      subst efs
      refine ⟨_, (pss_cons (ps_if (pt_cmpR op_notInKd (pe_ix ix_seq (pv 1) pe_int (fun _ _ => rfl)) (pe_globR rfl g_STEPS) (by rfl)) (pss_one (ps_ret pe_bl)) pss_nil) (pss_cons (ps_set (i := 2) sc_Workspace_step.nd rfl (by first | exact Or.inl rfl | exact Or.inr rfl) (pe_ix ix_kdA (pe_globR rfl g_STEPS) (pe_ix ix_seq (pv 1) pe_int (fun _ _ => rfl)) (fun _ _ => rfl))) (pss_cons (ps_expr (pe_callL F_act (hr.mono (by walk_at "lev")) (i := 2) rfl (.inl rfl) K_act B_act .nil pass0 (pa_cons (pv 0) (pa_cons (pv 1) pa_nil)))) (pss_one (ps_ret pe_bl))))), ?_⟩
      try dsimp only [cxOf, Cx.nox]
      have ht' := ht
      simp only [Is.vals] at ht
      repeat' walk_at "st"
      refine q_notInKd hD ?_
      repeat' walk_at "st"
      refine q_kd kD ?_
      repeat' walk_at "st"
      refine ⟨rfl, ?_⟩
      repeat' walk_at "st"
      refine c_wact rfl ht' d wa hz (fun H' k1 w1 => ?_)
      repeat' walk_at "st"
      exact k _ k1 w1
    case loadx =>
      obtain ⟨fa, fd, F_act, m_act, K_act, B_act⟩ := G_loadx
      obtain ⟨aD, fD, g_STEPS, kD, mD, hD⟩ := t_loadx
      have efs : fD = fa := by
        rw [mD] at m_act
        cases m_act
        rfl
      subst efs
      refine ⟨_, (pss_cons (ps_if (pt_cmpR op_notInKd (pe_ix ix_seq (pv 1) pe_int (fun _ _ => rfl)) (pe_globR rfl g_STEPS) (by rfl)) (pss_one (ps_ret pe_bl)) pss_nil) (pss_cons (ps_set (i := 2) sc_Workspace_step.nd rfl (by first | exact Or.inl rfl | exact Or.inr rfl) (pe_ix ix_kdA (pe_globR rfl g_STEPS) (pe_ix ix_seq (pv 1) pe_int (fun _ _ => rfl)) (fun _ _ => rfl))) (pss_cons (ps_expr (pe_callL F_act (hr.mono (by walk_at "lev")) (i := 2) rfl (.inl rfl) K_act B_act .nil pass0 (pa_cons (pv 0) (pa_cons (pv 1) pa_nil)))) (pss_one (ps_ret pe_bl))))), ?_⟩
      try dsimp only [cxOf, Cx.nox]
      have ht' := ht
      simp only [Is.vals] at ht
      repeat' walk_at "st"
      refine q_notInKd hD ?_
      repeat' walk_at "st"
      refine q_kd kD ?_
      repeat' walk_at "st"
      refine ⟨rfl, ?_⟩
      repeat' walk_at "st"
      refine c_wact rfl ht' d wa hz (fun H' k1 w1 => ?_)
      repeat' walk_at "st"
      exact k _ k1 w1
    case storex =>
      obtain ⟨fa, fd, F_act, m_act, K_act, B_act⟩ := G_storex
      obtain ⟨aD, fD, g_STEPS, kD, mD, hD⟩ := t_storex
      have efs : fD = fa := by
        rw [mD] at m_act
        cases m_act
        rfl
      subst efs
      refine ⟨_, (pss_cons (ps_if (pt_cmpR op_notInKd (pe_ix ix_seq (pv 1) pe_int (fun _ _ => rfl)) (pe_globR rfl g_STEPS) (by rfl)) (pss_one (ps_ret pe_bl)) pss_nil) (pss_cons (ps_set (i := 2) sc_Workspace_step.nd rfl (by first | exact Or.inl rfl | exact Or.inr rfl) (pe_ix ix_kdA (pe_globR rfl g_STEPS) (pe_ix ix_seq (pv 1) pe_int (fun _ _ => rfl)) (fun _ _ => rfl))) (pss_cons (ps_expr (pe_callL F_act (hr.mono (by walk_at "lev")) (i := 2) rfl (.inl rfl) K_act B_act .nil pass0 (pa_cons (pv 0) (pa_cons (pv 1) pa_nil)))) (pss_one (ps_ret pe_bl))))), ?_⟩
      try dsimp only [cxOf, Cx.nox]
      have ht' := ht
      simp only [Is.vals] at ht
      repeat' walk_at "st"
      refine q_notInKd hD ?_
      repeat' walk_at "st"
      refine q_kd kD ?_
      repeat' walk_at "st"
      refine ⟨rfl, ?_⟩
      repeat' walk_at "st"
      refine c_wact rfl ht' d wa hz (fun H' k1 w1 => ?_)
      repeat' walk_at "st"
      exact k _ k1 w1
    case check =>
      obtain ⟨fa, fd, F_act, m_act, K_act, B_act⟩ := G_check
      obtain ⟨aD, fD, g_STEPS, kD, mD, hD⟩ := t_check
      have efs : fD = fa := by
        rw [mD] at m_act
        cases m_act
        rfl
      subst efs
      refine ⟨_, (pss_cons (ps_if (pt_cmpR op_notInKd (pe_ix ix_seq (pv 1) pe_int (fun _ _ => rfl)) (pe_globR rfl g_STEPS) (by rfl)) (pss_one (ps_ret pe_bl)) pss_nil) (pss_cons (ps_set (i := 2) sc_Workspace_step.nd rfl (by first | exact Or.inl rfl | exact Or.inr rfl) (pe_ix ix_kdA (pe_globR rfl g_STEPS) (pe_ix ix_seq (pv 1) pe_int (fun _ _ => rfl)) (fun _ _ => rfl))) (pss_cons (ps_expr (pe_callL F_act (hr.mono (by walk_at "lev")) (i := 2) rfl (.inl rfl) K_act B_act .nil pass0 (pa_cons (pv 0) (pa_cons (pv 1) pa_nil)))) (pss_one (ps_ret pe_bl))))), ?_⟩
      try dsimp only [cxOf, Cx.nox]
      have ht' := ht
      simp only [Is.vals] at ht
      repeat' walk_at "st"
      refine q_notInKd hD ?_
      repeat' walk_at "st"
      refine q_kd kD ?_
      repeat' walk_at "st"
      refine ⟨rfl, ?_⟩
      repeat' walk_at "st"
      refine c_wact rfl ht' d wa hz (fun H' k1 w1 => ?_)
      repeat' walk_at "st"
      exact k _ k1 w1
    case neg =>
      obtain ⟨fa, fd, F_act, m_act, K_act, B_act⟩ := G_neg
      obtain ⟨aD, fD, g_STEPS, kD, mD, hD⟩ := t_neg
      have efs : fD = fa := by
        rw [mD] at m_act
        cases m_act
        rfl
      subst efs
      refine ⟨_, (pss_cons (ps_if (pt_cmpR op_notInKd (pe_ix ix_seq (pv 1) pe_int (fun _ _ => rfl)) (pe_globR rfl g_STEPS) (by rfl)) (pss_one (ps_ret pe_bl)) pss_nil) (pss_cons (ps_set (i := 2) sc_Workspace_step.nd rfl (by first | exact Or.inl rfl | exact Or.inr rfl) (pe_ix ix_kdA (pe_globR rfl g_STEPS) (pe_ix ix_seq (pv 1) pe_int (fun _ _ => rfl)) (fun _ _ => rfl))) (pss_cons (ps_expr (pe_callL F_act (hr.mono (by walk_at "lev")) (i := 2) rfl (.inl rfl) K_act B_act .nil pass0 (pa_cons (pv 0) (pa_cons (pv 1) pa_nil)))) (pss_one (ps_ret pe_bl))))), ?_⟩
      try dsimp only [cxOf, Cx.nox]
      have ht' := ht
      simp only [Is.vals] at ht
      repeat' walk_at "st"
      refine q_notInKd hD ?_
      repeat' walk_at "st"
      refine q_kd kD ?_
      repeat' walk_at "st"
      refine ⟨rfl, ?_⟩
      repeat' walk_at "st"
      refine c_wact rfl ht' d wa hz (fun H' k1 w1 => ?_)
      repeat' walk_at "st"
      exact k _ k1 w1
    case not =>
      obtain ⟨fa, fd, F_act, m_act, K_act, B_act⟩ := G_not
      obtain ⟨aD, fD, g_STEPS, kD, mD, hD⟩ := t_not
      have efs : fD = fa := by
        rw [mD] at m_act
        cases m_act
        rfl
      subst efs
      refine ⟨_, (pss_cons (ps_if (pt_cmpR op_notInKd (pe_ix ix_seq (pv 1) pe_int (fun _ _ => rfl)) (pe_globR rfl g_STEPS) (by rfl)) (pss_one (ps_ret pe_bl)) pss_nil) (pss_cons (ps_set (i := 2) sc_Workspace_step.nd rfl (by first | exact Or.inl rfl | exact Or.inr rfl) (pe_ix ix_kdA (pe_globR rfl g_STEPS) (pe_ix ix_seq (pv 1) pe_int (fun _ _ => rfl)) (fun _ _ => rfl))) (pss_cons (ps_expr (pe_callL F_act (hr.mono (by walk_at "lev")) (i := 2) rfl (.inl rfl) K_act B_act .nil pass0 (pa_cons (pv 0) (pa_cons (pv 1) pa_nil)))) (pss_one (ps_ret pe_bl))))), ?_⟩
      try dsimp only [cxOf, Cx.nox]
      have ht' := ht
      simp only [Is.vals] at ht
      repeat' walk_at "st"
      refine q_notInKd hD ?_
      repeat' walk_at "st"
      refine q_kd kD ?_
      repeat' walk_at "st"
      refine ⟨rfl, ?_⟩
      repeat' walk_at "st"
      refine c_wact rfl ht' d wa hz (fun H' k1 w1 => ?_)
      repeat' walk_at "st"
      exact k _ k1 w1
    case «calc» =>
      obtain ⟨fa, fd, F_act, m_act, K_act, B_act⟩ := G_calc
      obtain ⟨aD, fD, g_STEPS, kD, mD, hD⟩ := t_calc
      have efs : fD = fa := by
        rw [mD] at m_act
        cases m_act
        rfl
      subst efs
      refine ⟨_, (pss_cons (ps_if (pt_cmpR op_notInKd (pe_ix ix_seq (pv 1) pe_int (fun _ _ => rfl)) (pe_globR rfl g_STEPS) (by rfl)) (pss_one (ps_ret pe_bl)) pss_nil) (pss_cons (ps_set (i := 2) sc_Workspace_step.nd rfl (by first | exact Or.inl rfl | exact Or.inr rfl) (pe_ix ix_kdA (pe_globR rfl g_STEPS) (pe_ix ix_seq (pv 1) pe_int (fun _ _ => rfl)) (fun _ _ => rfl))) (pss_cons (ps_expr (pe_callL F_act (hr.mono (by walk_at "lev")) (i := 2) rfl (.inl rfl) K_act B_act .nil pass0 (pa_cons (pv 0) (pa_cons (pv 1) pa_nil)))) (pss_one (ps_ret pe_bl))))), ?_⟩
      try dsimp only [cxOf, Cx.nox]
      have ht' := ht
      simp only [Is.vals] at ht
      repeat' walk_at "st"
      refine q_notInKd hD ?_
      repeat' walk_at "st"
      refine q_kd kD ?_
      repeat' walk_at "st"
      refine ⟨rfl, ?_⟩
      repeat' walk_at "st"
      refine c_wact rfl ht' d wa hz (fun H' k1 w1 => ?_)
      repeat' walk_at "st"
      exact k _ k1 w1
    case jump =>
      obtain ⟨fa, fd, F_act, m_act, K_act, B_act⟩ := G_jump
      obtain ⟨aD, fD, g_STEPS, kD, mD, hD⟩ := t_jump
      have efs : fD = fa := by
        rw [mD] at m_act
        cases m_act
        rfl
      subst efs
      refine ⟨_, (pss_cons (ps_if (pt_cmpR op_notInKd (pe_ix ix_seq (pv 1) pe_int (fun _ _ => rfl)) (pe_globR rfl g_STEPS) (by rfl)) (pss_one (ps_ret pe_bl)) pss_nil) (pss_cons (ps_set (i := 2) sc_Workspace_step.nd rfl (by first | exact Or.inl rfl | exact Or.inr rfl) (pe_ix ix_kdA (pe_globR rfl g_STEPS) (pe_ix ix_seq (pv 1) pe_int (fun _ _ => rfl)) (fun _ _ => rfl))) (pss_cons (ps_expr (pe_callL F_act (hr.mono (by walk_at "lev")) (i := 2) rfl (.inl rfl) K_act B_act .nil pass0 (pa_cons (pv 0) (pa_cons (pv 1) pa_nil)))) (pss_one (ps_ret pe_bl))))), ?_⟩
      try dsimp only [cxOf, Cx.nox]
      have ht' := ht
      simp only [Is.vals] at ht
      repeat' walk_at "st"
      refine q_notInKd hD ?_
      repeat' walk_at "st"
      refine q_kd kD ?_
      repeat' walk_at "st"
      refine ⟨rfl, ?_⟩
      repeat' walk_at "st"
      refine c_wact rfl ht' d wa hz (fun H' k1 w1 => ?_)
      repeat' walk_at "st"
      exact k _ k1 w1
    case jzero =>
      obtain ⟨fa, fd, F_act, m_act, K_act, B_act⟩ := G_jzero
      obtain ⟨aD, fD, g_STEPS, kD, mD, hD⟩ := t_jzero
      have efs : fD = fa := by
        rw [mD] at m_act
        cases m_act
        rfl
      subst efs
      refine ⟨_, (pss_cons (ps_if (pt_cmpR op_notInKd (pe_ix ix_seq (pv 1) pe_int (fun _ _ => rfl)) (pe_globR rfl g_STEPS) (by rfl)) (pss_one (ps_ret pe_bl)) pss_nil) (pss_cons (ps_set (i := 2) sc_Workspace_step.nd rfl (by first | exact Or.inl rfl | exact Or.inr rfl) (pe_ix ix_kdA (pe_globR rfl g_STEPS) (pe_ix ix_seq (pv 1) pe_int (fun _ _ => rfl)) (fun _ _ => rfl))) (pss_cons (ps_expr (pe_callL F_act (hr.mono (by walk_at "lev")) (i := 2) rfl (.inl rfl) K_act B_act .nil pass0 (pa_cons (pv 0) (pa_cons (pv 1) pa_nil)))) (pss_one (ps_ret pe_bl))))), ?_⟩
      try dsimp only [cxOf, Cx.nox]
      have ht' := ht
      simp only [Is.vals] at ht
      repeat' walk_at "st"
      refine q_notInKd hD ?_
      repeat' walk_at "st"
      refine q_kd kD ?_
      repeat' walk_at "st"
      refine ⟨rfl, ?_⟩
      repeat' walk_at "st"
      refine c_wact rfl ht' d wa hz (fun H' k1 w1 => ?_)
      repeat' walk_at "st"
      exact k _ k1 w1
    case stop =>
      obtain ⟨fa, fd, F_act, m_act, K_act, B_act⟩ := G_stop
      obtain ⟨aD, fD, g_STEPS, kD, mD, hD⟩ := t_stop
      have efs : fD = fa := by
        rw [mD] at m_act
        cases m_act
        rfl
      subst efs
      refine ⟨_, (pss_cons (ps_if (pt_cmpR op_notInKd (pe_ix ix_seq (pv 1) pe_int (fun _ _ => rfl)) (pe_globR rfl g_STEPS) (by rfl)) (pss_one (ps_ret pe_bl)) pss_nil) (pss_cons (ps_set (i := 2) sc_Workspace_step.nd rfl (by first | exact Or.inl rfl | exact Or.inr rfl) (pe_ix ix_kdA (pe_globR rfl g_STEPS) (pe_ix ix_seq (pv 1) pe_int (fun _ _ => rfl)) (fun _ _ => rfl))) (pss_cons (ps_expr (pe_callL F_act (hr.mono (by walk_at "lev")) (i := 2) rfl (.inl rfl) K_act B_act .nil pass0 (pa_cons (pv 0) (pa_cons (pv 1) pa_nil)))) (pss_one (ps_ret pe_bl))))), ?_⟩
      try dsimp only [cxOf, Cx.nox]
      have ht' := ht
      simp only [Is.vals] at ht
      repeat' walk_at "st"
      refine q_notInKd hD ?_
      repeat' walk_at "st"
      refine q_kd kD ?_
      repeat' walk_at "st"
      refine ⟨rfl, ?_⟩
      repeat' walk_at "st"
      refine c_wact rfl ht' d wa hz (fun H' k1 w1 => ?_)
      repeat' walk_at "st"
      exact k _ k1 w1
  · obtain ⟨fa, fd, F_act, m_act, K_act, B_act⟩ := G_push
    obtain ⟨b, aD, g_STEPS, hD⟩ : ∃ b aD, mg "STEPS" = some (.ref aD) ∧ b = false ∧ KHas K w aD nm b := by
      simp only [MISS, List.mem_cons, List.not_mem_nil, or_false] at hm
      rcases hm with rfl | rfl | rfl | rfl | rfl
      · obtain ⟨a, h1, h2⟩ := m_give; exact ⟨false, a, h1, rfl, h2⟩
      · obtain ⟨a, h1, h2⟩ := m_take; exact ⟨false, a, h1, rfl, h2⟩
      · obtain ⟨a, h1, h2⟩ := m_either; exact ⟨false, a, h1, rfl, h2⟩
      · obtain ⟨a, h1, h2⟩ := m_fork; exact ⟨false, a, h1, rfl, h2⟩
      · obtain ⟨a, h1, h2⟩ := m_end; exact ⟨false, a, h1, rfl, h2⟩
    obtain ⟨rfl, hD⟩ := hD
    refine ⟨_, (pss_cons (ps_if (pt_cmpR op_notInKd (pe_ix ix_seq (pv 1) pe_int (fun _ _ => rfl)) (pe_globR rfl g_STEPS) (by rfl)) (pss_one (ps_ret pe_bl)) pss_nil) (pss_cons (ps_set (i := 2) sc_Workspace_step.nd rfl (by first | exact Or.inl rfl | exact Or.inr rfl) (pe_ix ix_kdA (pe_globR rfl g_STEPS) (pe_ix ix_seq (pv 1) pe_int (fun _ _ => rfl)) (fun _ _ => rfl))) (pss_cons (ps_expr (pe_callL F_act (hr.mono (by walk_at "lev")) (i := 2) rfl (.inl rfl) K_act B_act .nil pass0 (pa_cons (pv 0) (pa_cons (pv 1) pa_nil)))) (pss_one (ps_ret pe_bl))))), ?_⟩
    try dsimp only [cxOf, Cx.nox]
    repeat' walk_at "st"
    refine q_ixT (sqt ht) at0 ?_
    repeat' walk_at "st"
    refine q_notInKd hD ?_
    repeat' walk_at "st"
    exact k
theorem c_wstep1 {wk t : Addr} {i : Is} {q : Wa} {w w' : Ws} {H : Hp} {Q : VK} {E : XK} (h1 : H t = some (.tup i.vals)) (h2 : Does i w w') (h3 : WAt C H wk q w) (h4 : w.sk.length < 80000) (k : ∀ H', Kp [wk, q.ce, q.sk] H H' → WAt C H' wk q w' → Q (.bl true) H') : sp_wstep C [.ref wk, .ref t] H Q E := ⟨wk, t, rfl, .inl ⟨i, q, w, w', h1, h2, h3, h4, k⟩⟩
theorem c_wstep2 {wk t : Addr} {nm : Str} {rest : List V} {H : Hp} {Q : VK} {E : XK} (h1 : nm ∈ MISS) (h2 : H t = some (.tup (.str nm :: rest))) (k : Q (.bl false) H) : sp_wstep C [.ref wk, .ref t] H Q E := ⟨wk, t, rfl, .inr ⟨nm, rest, h1, h2, k⟩⟩
/-! ### copies -/
/-! no list or tuple in it is long -/
mutual
def smD : PyData → Bool
  | .list ds => decide (ds.length ≤ 1000) && smDs ds
  | .tuple ds => decide (ds.length ≤ 1000) && smDs ds
  | _ => true
def smDs : List PyData → Bool
  | [] => true
  | d :: r => smD d && smDs r
end
theorem dpm_free {M : List Addr} {H : Hp} {v : V} {d : PyData} (h : DpM M H v d) : DpM [] H v d := dpm_sub (fun x hx => absurd hx List.not_mem_nil) h
def rTupA (K : PySem.W.Frag) : List V → Hp → VK → Prop := fun xs H Q => ∃ p ys, xs = [.ref p] ∧ ((SqL K H p ys ∧ ∀ l, H l = none → Q (.ref l) (upd H l (.tup ys))) ∨ (SqT K H p ys ∧ Q (.ref p) H))
theorem call_tupA {X : Cx} : CallR X (.type "tuple") (rTupA X.K) := call_tuple_of
theorem q_tupA {K : PySem.W.Frag} {H : Hp} {Q : VK} {p : Addr} {ys : List V} (h : SqL K H p ys) (q : ∀ l Hn, H l = none → Ex H Hn → Hn l = some (.tup ys) → Q (.ref l) Hn) : rTupA K [.ref p] H Q := ⟨p, ys, rfl, .inl ⟨h, fun l hl => q l _ hl (Ex.mk hl rfl) upd_same⟩⟩
def sp_copied (n : Nat) : Sp := fun vs H Q _ => ∃ (v : V) (d : PyData) (M : List Addr), vs = [v] ∧ DpM [] H v d ∧ d.depth < n ∧ smD d = true ∧ Mo M H ∧ ∀ H' v', Ex H H' → DpM M H' v' d → Q v' H'
theorem c_copied {n : Nat} {v : V} {d : PyData} {H : Hp} {Q : VK} {E : XK} (M : List Addr) (h1 : DpM [] H v d) (h2 : d.depth < n) (h3 : smD d = true) (h4 : Mo M H) (q : ∀ H' v', Ex H H' → DpM M H' v' d → Q v' H') : sp_copied n [v] H Q E := ⟨v, d, M, rfl, h1, h2, h3, h4, q⟩
theorem depth_at {ds : List PyData} {i : Nat} {d : PyData} (h : ds[i]? = some d) : d.depth ≤ PyData.depthAll ds := by
  induction ds generalizing i with
  | nil => simp at h
  | cons x r ih =>
    simp only [PyData.depthAll]
    cases i with
    | zero =>
      simp at h
      subst h
      exact Nat.le_max_left _ _
    | succ i =>
      have := ih (i := i) (by simpa using h)
      exact Nat.le_trans this (Nat.le_max_right _ _)
theorem sm_at {ds : List PyData} {i : Nat} {d : PyData} (h : ds[i]? = some d) (l : smDs ds = true) : smD d = true := by
  induction ds generalizing i with
  | nil => simp at h
  | cons x r ih =>
    simp only [smDs, Bool.and_eq_true] at l
    cases i with
    | zero =>
      simp at h
      subst h
      exact l.1
    | succ i => exact ih (i := i) (by simpa using h) l.2
theorem q_isiV {K : PySem.W.Frag} {H : Hp} {Q : VK} {x : V} {t : Value} {T : String} (ty : TyOf K H x t) (e : PySem.W.kitOne K t (.type T) = some false) (q : Q (.bl false) H) : rIsi K [x, .ty T] H Q := q_isi ty e q
theorem pi_lt {X : Cx} {tg l : Expr} {tl : TE} (hl : PE X l tl) : PI X tg l (fun σ H R => iList X.K tl σ H R ∨ iTup X.K tl σ H R) := ⟨fun pins s σ H R I h => h.elim (fun h => (pi_list hl).run pins s σ H R I h) (fun h => (pi_tup hl).run pins s σ H R I h)⟩
theorem kp_upd {H H9 : Hp} {p : Addr} {xs : List V} {o' : HO} (h : H p = some (.lst xs)) (e : upd H p o' = H9) : Kp [p] H H9 := by
  rw [← e]
  exact kp_one h (by intro _ z; cases z)
theorem ok_copied (T : Glo K w mg) {n : Nat} (D : Dn K mg "copied" s_copied p_copied) (G_copied : Cal P w K mg base "copied" (n + 1) p_copied (sp_copied n)) : Cal P w K mg base "copied" (n + 2) p_copied (sp_copied (n + 1)) := by
  refine D.ok sc_copied (fun vs H Q E h => ?_) (fun f cdv A outer s H vs Q E hr h => ?_)
  · obtain ⟨_, _, _, rfl, _⟩ := h
    rfl
  obtain ⟨v, d, M, rfl, dv, hd, hl, mo, q⟩ := h
  refine ⟨_, (pss_cons (ps_if (pt_val (pe_callB call_isi rfl T.n_isinstance (by decide +kernel) (pa_cons (pv 0) (pa_cons (pe_ty (n := "list") rfl T.n_list (by decide +kernel)) pa_nil)))) (pss_one (ps_ret (pe_lc (own := [("inner", 1)]) (tt := tYes) rfl sc_copied.nd (pi_lt (pv 0)) (blkOk_by (N := ["part", "inner", "key"]) (sc := defScope s_copied) (by decide +kernel)) (fun _ _ _ _ _ => (pg_name (i := 1) sc_copied.nd rfl (by first | exact Or.inl rfl | exact Or.inr rfl))) (fun _ _ _ _ _ => pts_nil) (fun _ _ _ _ _ => (pe_cal G_copied (hr.mono (by walk_at "lev")) rfl (pa_cons (pv 1) pa_nil)))))) pss_nil) (pss_cons (ps_if (pt_val (pe_callB call_isi rfl T.n_isinstance (by decide +kernel) (pa_cons (pv 0) (pa_cons (pe_ty (n := "tuple") rfl T.n_tuple (by decide +kernel)) pa_nil)))) (pss_one (ps_ret (pe_callTy call_tupA rfl T.n_tuple (by decide +kernel) (pa_cons (pe_lc (own := [("inner", 1)]) (tt := tYes) rfl sc_copied.nd (pi_lt (pv 0)) (blkOk_by (N := ["part", "inner", "key"]) (sc := defScope s_copied) (by decide +kernel)) (fun _ _ _ _ _ => (pg_name (i := 1) sc_copied.nd rfl (by first | exact Or.inl rfl | exact Or.inr rfl))) (fun _ _ _ _ _ => pts_nil) (fun _ _ _ _ _ => (pe_cal G_copied (hr.mono (by walk_at "lev")) rfl (pa_cons (pv 1) pa_nil)))) pa_nil)))) pss_nil) (pss_cons (ps_if (pt_val (pe_callB call_isi rfl T.n_isinstance (by decide +kernel) (pa_cons (pv 0) (pa_cons (pe_ty (n := "dict") rfl T.n_dict (by decide +kernel)) pa_nil)))) (pss_one ps_never) pss_nil) (pss_one (ps_ret (pv 0)))))), ?_⟩
  try dsimp only [cxOf, Cx.nox]
  cases dv with
  | non =>
    repeat' walk_at "st"
    refine q_isiV .non (kit_ty (r := false) (by decide +kernel)) ?_
    repeat' walk_at "st"
    refine q_isiV .non (kit_ty (r := false) (by decide +kernel)) ?_
    repeat' walk_at "st"
    refine q_isiV .non (kit_ty (r := false) (by decide +kernel)) ?_
    repeat' walk_at "st"
    exact q _ _ (Ex.refl _) .non
  | bl b =>
    repeat' walk_at "st"
    refine q_isiV (.bl b) (kit_ty (r := false) (by decide +kernel)) ?_
    repeat' walk_at "st"
    refine q_isiV (.bl b) (kit_ty (r := false) (by decide +kernel)) ?_
    repeat' walk_at "st"
    refine q_isiV (.bl b) (kit_ty (r := false) (by decide +kernel)) ?_
    repeat' walk_at "st"
    exact q _ _ (Ex.refl _) (.bl b)
  | int i =>
    repeat' walk_at "st"
    refine q_isiV (.int i) (kit_ty (r := false) (by decide +kernel)) ?_
    repeat' walk_at "st"
    refine q_isiV (.int i) (kit_ty (r := false) (by decide +kernel)) ?_
    repeat' walk_at "st"
    refine q_isiV (.int i) (kit_ty (r := false) (by decide +kernel)) ?_
    repeat' walk_at "st"
    exact q _ _ (Ex.refl _) (.int i)
  | str x =>
    repeat' walk_at "st"
    refine q_isiV (.str x) (kit_ty (r := false) (by decide +kernel)) ?_
    repeat' walk_at "st"
    refine q_isiV (.str x) (kit_ty (r := false) (by decide +kernel)) ?_
    repeat' walk_at "st"
    refine q_isiV (.str x) (kit_ty (r := false) (by decide +kernel)) ?_
    repeat' walk_at "st"
    exact q _ _ (Ex.refl _) (.str x)
  | @lst a xs ds nm ha dxs =>
    repeat' walk_at "st"
    refine .inl ?_
    repeat' walk_at "st"
    intro L hL
    have nL : L ∉ M := mo.new hL
    simp only [PyData.depth] at hd
    simp only [smD, Bool.and_eq_true, decide_eq_true_eq] at hl
    refine lc_list (xs := xs) (fun i H' => Ex H H' ∧ ∃ ws, H' L = some (.lst ws) ∧ DpMs (L :: M) H' ws (ds.take i)) ?_ ?_ ?_ ?_
    · exact ⟨Ex.mk hL rfl, [], upd_same, by rw [List.take_zero]; exact .nil⟩
    · rintro i H' _ ⟨e1, _⟩
      exact sql (e1 _ _ ha)
    · rintro i x H' hx ⟨e1, ws, h1, d1⟩
      obtain ⟨d, hdi, dx⟩ := dpms_at dxs hx
      have li := (List.getElem?_eq_some_iff.mp hdi).1
      have lw := dpms_len d1
      rw [List.length_take] at lw
      refine ⟨rfl, ?_⟩
      repeat' walk_at "st"
      refine c_copied (L :: M) (dpm_ex e1 dx) (by have := depth_at hdi; omega) (sm_at hdi hl.2) (mo_add (fsome h1) (mo_ex e1 mo)) (fun H2 v2 e2 d2 => ?_)
      have h2 := e2 _ _ h1
      refine ⟨ws, h2, sl1000' (by have := hl.1; omega), ?_⟩
      generalize hq : upd H2 L _ = H9
      have k9 := kp_upd h2 hq
      have h9 := at_new hq
      refine ⟨by walk_at "exx", _, h9, ?_⟩
      rw [List.take_add_one, hdi]
      exact dpms_kp k9 sub_hd (dpms_app (dpms_ex e2 d1) (dpms_one d2))
    · rintro H' ⟨e1, ws, h1, d1⟩
      rw [dpms_len dxs, List.take_length] at d1
      repeat' walk_at "st"
      exact q _ _ e1 (.lst nL h1 (dpms_sub sub_tl d1))
  | @tup a xs ds ha dxs =>
    repeat' walk_at "st"
    refine .inr ?_
    repeat' walk_at "st"
    intro L hL
    have nL : L ∉ M := mo.new hL
    simp only [PyData.depth] at hd
    simp only [smD, Bool.and_eq_true, decide_eq_true_eq] at hl
    refine lc_tup (xs := xs) (fun i H' => Ex H H' ∧ ∃ ws, H' L = some (.lst ws) ∧ DpMs (L :: M) H' ws (ds.take i)) ?_ ?_ ?_ ?_
    · exact ⟨Ex.mk hL rfl, [], upd_same, by rw [List.take_zero]; exact .nil⟩
    · rintro i H' _ ⟨e1, _⟩
      exact sqt (e1 _ _ ha)
    · rintro i x H' hx ⟨e1, ws, h1, d1⟩
      obtain ⟨d, hdi, dx⟩ := dpms_at dxs hx
      have li := (List.getElem?_eq_some_iff.mp hdi).1
      have lw := dpms_len d1
      rw [List.length_take] at lw
      refine ⟨rfl, ?_⟩
      repeat' walk_at "st"
      refine c_copied (L :: M) (dpm_ex e1 dx) (by have := depth_at hdi; omega) (sm_at hdi hl.2) (mo_add (fsome h1) (mo_ex e1 mo)) (fun H2 v2 e2 d2 => ?_)
      have h2 := e2 _ _ h1
      refine ⟨ws, h2, sl1000' (by have := hl.1; omega), ?_⟩
      generalize hq : upd H2 L _ = H9
      have k9 := kp_upd h2 hq
      have h9 := at_new hq
      refine ⟨by walk_at "exx", _, h9, ?_⟩
      rw [List.take_add_one, hdi]
      exact dpms_kp k9 sub_hd (dpms_app (dpms_ex e2 d1) (dpms_one d2))
    · rintro H' ⟨e1, ws, h1, d1⟩
      rw [dpms_len dxs, List.take_length] at d1
      repeat' walk_at "st"
      refine q_tupA (sql h1) (fun l H2 hl2 e2 h2 => ?_)
      exact q _ _ (e1.trans e2) (.tup h2 (dpms_ex e2 (dpms_sub sub_tl d1)))
theorem copied_none (D : Dn K mg "copied" s_copied p_copied) : Cal P w K mg base "copied" 1 p_copied (sp_copied 0) := by
  refine D.ok sc_copied (fun vs H Q E h => ?_) (fun f cdv A outer s H vs Q E hr h => ?_)
  · obtain ⟨_, _, _, rfl, _⟩ := h
    rfl
  obtain ⟨v, d, M, rfl, dv, hd, hl, mo, q⟩ := h
  exact absurd hd (Nat.not_lt_zero _)
theorem copied_all (T : Glo K w mg) (D : Dn K mg "copied" s_copied p_copied) : ∀ n, Cal P w K mg base "copied" (n + 1) p_copied (sp_copied n)
  | 0 => copied_none D
  | n + 1 => ok_copied T D (copied_all T D n)
variable {C : Addr}
mutual
theorem dpm_obj {M : List Addr} {H : Hp} {p : Addr} {o : HO} (h : H p = some o) (n : ∀ xs, o ≠ .lst xs) : ∀ {v : V} {d : PyData}, DpM M H v d → DpM (p :: M) H v d
  | _, _, .non => .non
  | _, _, .bl b => .bl b
  | _, _, .int i => .int i
  | _, _, .str x => .str x
  | _, _, .lst m h1 t => .lst (nin_c (fun z => n _ (Option.some.inj (h.symm.trans (z ▸ h1)))) m) h1 (dpms_obj h n t)
  | _, _, .tup h1 t => .tup h1 (dpms_obj h n t)
theorem dpms_obj {M : List Addr} {H : Hp} {p : Addr} {o : HO} (h : H p = some o) (n : ∀ xs, o ≠ .lst xs) : ∀ {vs : List V} {ds : List PyData}, DpMs M H vs ds → DpMs (p :: M) H vs ds
  | _, _, .nil => .nil
  | _, _, .cons a t => .cons (dpm_obj h n a) (dpms_obj h n t)
end
def rRepN1 : R2 := rRep
theorem op_repN1 {X : Cx} : OpR X (binaryOp .Mult) rRepN1 := op_rep
theorem q_repN2 {H : Hp} {Q : VK} {l : Addr} {v : V} {k : Int} {n : Nat} (hk : k = (n : Nat)) (h : H l = some (.lst [v])) (hn : n ≤ 1000) (q : ∀ p Hn, H p = none → Ex H Hn → Hn p = some (.lst (List.replicate n v)) → Q (.ref p) Hn) : rRepN1 (.ref l) (.int k) H Q := by
  subst hk
  refine ⟨l, n, [v], rfl, rfl, h, by omega, by omega, ?_, fun p hp => ?_⟩
  · rw [Int.toNat_natCast]
    refine sl1000 ?_
    show 1 * n ≤ 100000
    omega
  · refine q p _ hp (Ex.mk hp rfl) ?_
    rw [upd_same, Int.toNat_natCast, List.flatten_replicate_singleton]
/-- a thread as the workspace gets it: its parent, places, takes, gives and code -/
def sp_wsinit (C : Addr) : Sp := fun vs H Q _ => ∃ (wk th dx ta ga co va : Addr) (nu pa : V) (pl : Nat) (tks gvs cs : List Int) (cd : List PyData), vs = [.ref wk, nu, .ref th, .ref va] ∧ H wk = some (.ins C dx []) ∧ H th = some (.tup [pa, .int (pl : Nat), .ref ta, .ref ga, .ref co]) ∧ H ta = some (.lst (tks.map V.int)) ∧ H ga = some (.lst (gvs.map V.int)) ∧
  DpM [] H (.ref co) (.list cd) ∧ PyData.depthAll cd ≤ 2 ∧ smD (.list cd) = true ∧ H va = some (.lst (cs.map V.int)) ∧ cs.length ≤ pl ∧ pl ≤ 500 ∧
  ∀ H' q, Kp [wk] H H' → q.dx = dx → q.nu = nu → q.pa = pa → H q.ce = none → H q.sk = none → H q.ta = none → H' q.ta = some (.lst (tks.map V.int)) → (q.ce ≠ q.ta ∧ q.sk ≠ q.ta ∧ q.ta ≠ wk) → DpM [q.ce, q.sk, wk] H' (.ref q.co) (.list cd) → WAt C H' wk q ⟨cs ++ List.replicate (pl - cs.length) 0, [], 0, "ready"⟩ → Q .non H'
theorem ok_wsinit (T : Glo K w mg) (W : WkK K C) (D : DnI K mg "Workspace" "Workspace.__init__" C s_Workspace___init__ p_Workspace___init__) (G_copied : Cal P w K mg base "copied" 5 p_copied (sp_copied 4)) : MakC P w K mg base "Workspace" C 6 p_Workspace___init__ (sp_wsinit C) := by
  obtain ⟨hc, n1, n2, n3, n4, n5, n6, n7, n8, n9⟩ := W
  refine D.ok sc_Workspace___init__ (fun vs H Q E h => ?_) (fun f cdv A outer s H vs Q E hr h => ?_)
  · obtain ⟨_, _, _, _, _, _, _, _, _, _, _, _, _, _, rfl, _⟩ := h
    rfl
  obtain ⟨wk, th, dx, ta, ga, co, va, nu, pa, pl, tks, gvs, cs, cd, rfl, hwk, hth, hta, hga, dco, hdp, hsm, hva, hz, hp5, q⟩ := h
  have ntw : ta ≠ wk := ne_knd hta hwk (by intro z; cases z)
  have ngw : ga ≠ wk := ne_knd hga hwk (by intro z; cases z)
  have nvw : va ≠ wk := ne_knd hva hwk (by intro z; cases z)
  refine ⟨_, (pss_cons (ps_asg (pv 2) (pg_tup rfl (pgs_cons (pg_name (i := 4) sc_Workspace___init__.nd rfl (by first | exact Or.inl rfl | exact Or.inr rfl)) (pgs_cons (pg_name (i := 5) sc_Workspace___init__.nd rfl (by first | exact Or.inl rfl | exact Or.inr rfl)) (pgs_cons (pg_name (i := 6) sc_Workspace___init__.nd rfl (by first | exact Or.inl rfl | exact Or.inr rfl)) (pgs_cons (pg_name (i := 7) sc_Workspace___init__.nd rfl (by first | exact Or.inl rfl | exact Or.inr rfl)) (pgs_cons (pg_name (i := 8) sc_Workspace___init__.nd rfl (by first | exact Or.inl rfl | exact Or.inr rfl)) pgs_nil))))))) (pss_cons (ps_fld (pv 0) (pv 1) rfl) (pss_cons (ps_fld (pv 0) (pv 4) rfl) (pss_cons (ps_fld (pv 0) (pe_callTy call_listA rfl T.n_list (by decide +kernel) (pa_cons (pv 6) pa_nil)) rfl) (pss_cons (ps_fld (pv 0) (pe_callTy call_listA rfl T.n_list (by decide +kernel) (pa_cons (pv 7) pa_nil)) rfl) (pss_cons (ps_fld (pv 0) (pe_cal G_copied (hr.mono (by walk_at "lev")) rfl (pa_cons (pv 8) pa_nil)) rfl) (pss_cons (ps_fld (pv 0) (pe_op op_addA (pe_callTy call_listA rfl T.n_list (by decide +kernel) (pa_cons (pv 3) pa_nil)) (pe_op op_repN1 (pe_lst (pa_cons pe_int pa_nil)) (pe_op op_sub (pv 5) (pe_callB call_lenA rfl T.n_len (by decide +kernel) (pa_cons (pv 3) pa_nil))))) rfl) (pss_cons (ps_fld (pv 0) (pe_lst pa_nil) rfl) (pss_cons (ps_fld (pv 0) pe_int rfl) (pss_one (ps_fld (pv 0) pe_str rfl))))))))))), ?_⟩
  try dsimp only [cxOf, Cx.nox]
  repeat' walk_at "st"
  rename_i tA _ _ _ _ _ _ _ _
  obtain ⟨gA, rfl⟩ : ∃ x, x = p := ⟨_, rfl⟩
  have dco2 : DpM [] Hn (.ref co) (.list cd) := by
    obtain ⟨ac, xc, e1, _, hc2, dx2⟩ := dpm_lst dco
    obtain rfl : co = ac := V.ref.inj e1
    have ncw : co ≠ wk := ne_knd hc2 hwk (by intro z; cases z)
    have kk : Kp [wk] H Hn := by walk_at "kpx"
    exact dpm_sub (M := [wk]) (fun x hx => absurd hx List.not_mem_nil) (dpm_kp kk (fun _ z => z) (dpm_obj hwk (by intro _ z; cases z) (.lst List.not_mem_nil hc2 dx2)))
  refine c_copied [wk] dco2 (by simp only [PyData.depth]; omega) hsm (fun x hx => by rw [List.mem_singleton.mp hx]; exact fsome hu) (fun H5 v5 e5 d5 => ?_)
  obtain ⟨co5, xc, rfl, nc5, hc5, dx5⟩ := dpm_lst d5
  repeat' walk_at "st"
  refine q_repN2 (n := pl - cs.length) (by rw [List.length_map]; omega) hn (by omega) (fun p7 H7 hp7 e7 h7 => ?_)
  have d7 : DpM [wk] H7 (.ref co5) (.list cd) := dpm_kp (N := [wk]) (by walk_at "kpx") (fun _ z => z) d5
  repeat' walk_at "st"
  refine q_catN (xs := cs.map V.int) (ys := List.replicate (pl - cs.length) (V.int 0)) (by walk_at "lift") (by walk_at "lift") (by rw [List.length_map, List.length_replicate]; omega) (fun p8 H8 hp8 e8 h8 => ?_)
  have h8' : H8 p8 = some (.lst ((cs ++ List.replicate (pl - cs.length) 0).map V.int)) := by rw [h8, List.map_append, List.map_replicate]
  have d8 := dpm_ex e8 (dpm_add hp8 d7)
  clear h8
  repeat' walk_at "st"
  have d9 := dpm_add hp (dpm_kp (N := [wk]) (by walk_at "kpx") (fun x hx => by rw [List.mem_singleton.mp hx]; simp) d8)
  have d10 : DpM [p, p8, wk] Hn (.ref co5) (.list cd) := dpm_kp (N := [wk]) (by walk_at "kpx") (fun x hx => by rw [List.mem_singleton.mp hx]; simp) d9
  have d11 : DpM [p8, p, wk] Hn (.ref co5) (.list cd) := dpm_sub (fun x hx => by simp only [List.mem_cons, List.not_mem_nil, or_false] at hx ⊢; rcases hx with h | h | h <;> simp [h]) d10
  clear d9 d10
  exact q Hn ⟨dx, nu, pa, tA, gA, co5, p8, p⟩ (by walk_at "kpx") rfl rfl rfl (by walk_at "frees") (by walk_at "frees") (by walk_at "frees") (by walk_at "lift") ⟨by walk_at "ne1", by walk_at "ne1", by walk_at "ne1"⟩ d11 ⟨hu, by walk_at "lift", by walk_at "lift", by walk_at "ne1"⟩
variable {C : Addr}
def sp_wcell (C : Addr) : Sp := fun vs H Q _ => ∃ (wk : Addr) (q : Wa) (w : Ws) (tks : List Int) (k : Int) (j : Nat), vs = [.ref wk, .int k] ∧ WAt C H wk q w ∧ H q.ta = some (.lst (tks.map V.int)) ∧ tks[j]? = some k ∧ (∀ m, m < j → tks[m]? ≠ some k) ∧ j < w.cs.length ∧ Q (.int (w.cs.getD j 0)) H
theorem c_wcell {wk : Addr} {q : Wa} {w : Ws} {tks : List Int} {k : Int} {j : Nat} {H : Hp} {Q : VK} {E : XK} (h1 : WAt C H wk q w) (h2 : H q.ta = some (.lst (tks.map V.int))) (h3 : tks[j]? = some k) (h4 : ∀ m, m < j → tks[m]? ≠ some k) (h5 : j < w.cs.length) (q1 : Q (.int (w.cs.getD j 0)) H) : sp_wcell C [.ref wk, .int k] H Q E := ⟨wk, q, w, tks, k, j, rfl, h1, h2, h3, h4, h5, q1⟩
theorem flat_intsW (ks : List Int) : (ks.map V.int).all flatV = true := by
  rw [List.all_map, List.all_eq_true]
  intro x _
  rfl
theorem q_idxW {K : PySem.W.Frag} {H : Hp} {Q : VK} {a : Addr} {ks : List Int} {k : Int} {j : Nat} (h : H a = some (.lst (ks.map V.int))) (hj : ks[j]? = some k) (hm : ∀ m, m < j → ks[m]? ≠ some k) (q : Q (.int (j : Nat)) H) : rIndex K (.ref a) [.int k] H Q := by
  refine ⟨a, _, .int k, j, .int k, rfl, rfl, sql h, rfl, flat_intsW ks, by rw [List.getElem?_map, hj]; rfl, by simp [eqV], fun m z hm2 hz => ?_, q⟩
  rw [List.getElem?_map] at hz
  obtain ⟨u, hu, rfl⟩ := Option.map_eq_some_iff.mp hz
  have : u ≠ k := fun e => hm m hm2 (by rw [hu, e])
  simpa [eqV] using this
theorem ok_wcell (T : Glo K w mg) (W : WkK K C) (D : DnM K C "cell" "Workspace.cell" s_Workspace_cell p_Workspace_cell) : MetC P w K mg base C "cell" 1 p_Workspace_cell (sp_wcell C) := by
  obtain ⟨hc, n1, n2, n3, n4, n5, n6, n7, n8, n9⟩ := W
  refine D.ok sc_Workspace_cell (fun vs H Q E h => ?_) (fun f cdv A outer s H vs Q E hr h => ?_)
  · obtain ⟨_, _, _, _, _, _, rfl, _⟩ := h
    rfl
  obtain ⟨wk, q, w, tks, k, j, rfl, ⟨hob, hce, hsk, hne⟩, hta, h3, h4, h5, k1⟩ := h
  refine ⟨_, (pss_one (ps_ret (pe_ix ix_seq (pe_fld (pv 0) rfl) (pe_bm PySem.F.plainAttrs_list PySem.F.slot_list_index PySem.F.type_list_index mt_indexA (pe_fld (pv 0) rfl) (pa_cons (pv 1) pa_nil)) (fun _ _ => rfl)))), ?_⟩
  try dsimp only [cxOf, Cx.nox]
  simp only [wfl] at hob
  have e1 := getD_at h5
  repeat' walk_at "st"
  refine q_idxW hta h3 h4 ?_
  repeat' walk_at "st"
  exact k1
def sp_wput (C : Addr) : Sp := fun vs H Q _ => ∃ (wk : Addr) (q : Wa) (w : Ws) (tks : List Int) (k x : Int) (j : Nat), vs = [.ref wk, .int k, .int x] ∧ WAt C H wk q w ∧ H q.ta = some (.lst (tks.map V.int)) ∧ tks[j]? = some k ∧ (∀ m, m < j → tks[m]? ≠ some k) ∧ j < w.cs.length ∧ ∀ H', Kp [q.ce] H H' → WAt C H' wk q ⟨w.cs.set j x, w.sk, w.pc, w.st⟩ → Q .non H'
theorem c_wput {wk : Addr} {q : Wa} {w : Ws} {tks : List Int} {k x : Int} {j : Nat} {H : Hp} {Q : VK} {E : XK} (h1 : WAt C H wk q w) (h2 : H q.ta = some (.lst (tks.map V.int))) (h3 : tks[j]? = some k) (h4 : ∀ m, m < j → tks[m]? ≠ some k) (h5 : j < w.cs.length) (q1 : ∀ H', Kp [q.ce] H H' → WAt C H' wk q ⟨w.cs.set j x, w.sk, w.pc, w.st⟩ → Q .non H') : sp_wput C [.ref wk, .int k, .int x] H Q E := ⟨wk, q, w, tks, k, x, j, rfl, h1, h2, h3, h4, h5, q1⟩
theorem ok_wput (T : Glo K w mg) (W : WkK K C) (D : DnM K C "store" "Workspace.store" s_Workspace_store p_Workspace_store) : MetC P w K mg base C "store" 1 p_Workspace_store (sp_wput C) := by
  obtain ⟨hc, n1, n2, n3, n4, n5, n6, n7, n8, n9⟩ := W
  refine D.ok sc_Workspace_store (fun vs H Q E h => ?_) (fun f cdv A outer s H vs Q E hr h => ?_)
  · obtain ⟨_, _, _, _, _, _, _, rfl, _⟩ := h
    rfl
  obtain ⟨wk, q, w, tks, k, x, j, rfl, ⟨hob, hce, hsk, hne⟩, hta, h3, h4, h5, k1⟩ := h
  refine ⟨_, (pss_one (ps_asg (pv 2) (pg_sub (pe_fld (pv 0) rfl) (pe_bm PySem.F.plainAttrs_list PySem.F.slot_list_index PySem.F.type_list_index mt_indexA (pe_fld (pv 0) rfl) (pa_cons (pv 1) pa_nil)) set_list))), ?_⟩
  try dsimp only [cxOf, Cx.nox]
  have nkw : q.sk ≠ wk := ne_knd hsk hob (by intro z; cases z)
  have ncw : q.ce ≠ wk := ne_knd hce hob (by intro z; cases z)
  simp only [wfl] at hob
  have e1 := ixN_at h5
  repeat' walk_at "st"
  refine q_idxW hta h3 h4 ?_
  repeat' walk_at "st"
  rw [← List.map_set] at hu
  exact k1 _ ku ⟨by walk_at "lift", hu, by walk_at "lift", hne⟩
abbrev s__law_two : Stmt := topS 50
theorem sc__law_two : FnScope ["operator", "a", "b", "rows"] ["operator", "a", "b"] (defScope s__law_two) := ⟨rfl, rfl, rfl, by decide +kernel, rfl, by decide +kernel, by decide +kernel⟩
abbrev p__law_two : List Str := ["operator", "a", "b"]
theorem ex_updF {p : Addr} {o : HO} {H H' : Hp} (k : Ex H H') (hp : H p = none) : Ex H (upd H' p o) := fun a u h => by
  rw [upd_ne (ne_of_none h hp)]
  exact k a u h
theorem nin_one {a b : Addr} (h : a ≠ b) : a ∉ [b] := fun z => h (List.mem_singleton.mp z)
def sp_two : Sp := fun vs H Q _ => ∃ (o : Op) (a b : Int), vs = [.str o.str, .int a, .int b] ∧ (0 ≤ a ∧ a < 65536) ∧ (0 ≤ b ∧ b < 65536) ∧ ∀ H', Ex H H' → Q (optV (calc2 o a b)) H'
theorem dm_in (o : Op) (h1 : o ≠ .div) (h2 : o ≠ .mod) : inV (.str o.str) [.str "/", .str "mod"] = false := by
  cases o <;> first | exact absurd rfl h1 | exact absurd rfl h2 | decide +kernel
theorem q_dput {p : Addr} {kvs : List (Key × V)} {z : Str} {B : Hp → Prop} (h : H p = some (.dK kvs)) (hl : kvs.length ≤ 1000) (q : B (upd H p (.dK (putK kvs (Sum.inr z) v)))) : ∃ a H', V.ref p = .ref a ∧ DPut H a (.str z) v H' ∧ B H' :=
  ⟨p, _, rfl, DPut.k (k := Sum.inr z) h (sl1000' (by omega)), q⟩
theorem putK_len {kvs : List (Key × V)} {k : Key} {v x : V} (h : valV kvs k = some x) : (putK kvs k v).length = kvs.length := by
  unfold putK
  have : (kvs.any fun kv => decide (kv.1 = k)) = true := by
    unfold valV at h
    obtain ⟨kv, hk, _⟩ := Option.map_eq_some_iff.mp h
    have hs := List.find?_some hk
    exact List.any_eq_true.mpr ⟨kv, List.mem_of_find?_eq_some hk, hs⟩
  rw [if_pos this, List.length_map]
theorem vput_ne {kvs : List (Key × V)} {a b : Str} {v x : V} (h : valV kvs (Sum.inr b) = some x) (n : decide (b = a) = false) : valV (putK kvs (Sum.inr a) v) (Sum.inr b) = some x := by
  rw [valV_put, if_neg (fun e => of_decide_eq_false n (Sum.inr.inj e))]
  exact h
theorem vput_eq {kvs : List (Key × V)} {a : Str} {v : V} : valV (putK kvs (Sum.inr a) v) (Sum.inr a) = some v := by
  rw [valV_put, if_pos rfl]
def two6 (x1 x2 x3 x4 x5 x6 : Int) : List (Key × V) := [(.inr "+", .int x1), (.inr "-", .int x2), (.inr "*", .int x3), (.inr "and", .int x4), (.inr "or", .int x5), (.inr "==", .int x6)]
def two9 (x1 x2 x3 x4 x5 x6 x7 x8 x9 : Int) : List (Key × V) := putK (putK (putK (two6 x1 x2 x3 x4 x5 x6) (.inr "!=") (.int x7)) (.inr "<") (.int x8)) (.inr "<=") (.int x9)
def pick9 (x1 x2 x3 x4 x5 x6 x7 x8 x9 : Int) : Op → Int
  | .add => x1 | .sub => x2 | .mul => x3 | .and => x4 | .or => x5 | .eq => x6 | .ne => x7 | .lt => x8 | .le => x9 | _ => 0
theorem two_val (x1 x2 x3 x4 x5 x6 x7 x8 x9 : Int) (o : Op) (h1 : o ≠ .div) (h2 : o ≠ .mod) : valV (two9 x1 x2 x3 x4 x5 x6 x7 x8 x9) (.inr o.str) = some (.int (pick9 x1 x2 x3 x4 x5 x6 x7 x8 x9 o)) := by
  unfold two9
  cases o
  case div => exact absurd rfl h1
  case mod => exact absurd rfl h2
  case le => exact vput_eq
  case lt => exact vput_ne vput_eq (by decide +kernel)
  case ne => exact vput_ne (vput_ne vput_eq (by decide +kernel)) (by decide +kernel)
  all_goals exact vput_ne (vput_ne (vput_ne rfl (by decide +kernel)) (by decide +kernel)) (by decide +kernel)
theorem two_eq (o : Op) (h1 : o ≠ .div) (h2 : o ≠ .mod) {a b x4 x5 x6 x7 x8 x9 : Int} (h4 : x4 = b2 (hold .and a b)) (h5 : x5 = b2 (hold .or a b)) (h6 : x6 = b2 (hold .eq a b)) (h7 : x7 = b2 (hold .ne a b)) (h8 : x8 = b2 (hold .lt a b)) (h9 : x9 = b2 (hold .le a b)) :
    V.int (pick9 (a + b) (a - b) (a * b) x4 x5 x6 x7 x8 x9 o % 65536) = optV (calc2 o a b) := by
  have hb : ∀ c : Bool, b2 c % 65536 = b2 c := fun c => by cases c <;> rfl
  cases o
  case div => exact absurd rfl h1
  case mod => exact absurd rfl h2
  all_goals first | rfl | (simp only [pick9, calc2, optV, h4, h5, h6, h7, h8, h9, hb])
theorem ok_two (T : Glo K w mg) (D : Dn K mg "_law_two" s__law_two p__law_two) : Cal P w K mg base "_law_two" 1 p__law_two sp_two := by
  refine D.ok sc__law_two (fun vs H Q E h => ?_) (fun f cdv A outer s H vs Q E hr h => ?_)
  · obtain ⟨_, _, _, rfl, _⟩ := h
    rfl
  obtain ⟨o, a, b, rfl, ⟨a0, a1⟩, ⟨b0, b1⟩, q⟩ := h
  refine ⟨_, (pss_cons (ps_if (pt_cmpR op_in_seq (pv 0) (pe_tup (pa_cons pe_str (pa_cons pe_str pa_nil))) (by rfl)) (pss_cons (ps_if (pt_cmpR (op_eqA (hu64 hr)) (pv 2) pe_int (nomark _)) (pss_one (ps_ret pe_non)) pss_nil) (pss_one (ps_ret (pe_ifExp (pt_cmpR (op_eqA (hu64 hr)) (pv 0) pe_str (nomark _)) (pe_op op_fdiv (pv 1) (pv 2)) (pe_op op_mod (pe_callTy call_intA rfl T.n_int (by decide +kernel) (pa_cons (pv 1) pa_nil)) (pv 2)))))) pss_nil) (pss_cons (ps_set (i := 3) sc__law_two.nd rfl (by first | exact Or.inl rfl | exact Or.inr rfl) (pe_disp (pps_cons pe_str (pe_op op_addA (pv 1) (pv 2)) (pps_cons pe_str (pe_op op_sub (pv 1) (pv 2)) (pps_cons pe_str (pe_op op_mul (pv 1) (pv 2)) (pps_cons pe_str (pe_callTy call_intA rfl T.n_int (by decide +kernel) (pa_cons (pe_and (pe_cmpR op_gt (pv 1) pe_int (nomark _)) (pe_one (pe_cmpR op_gt (pv 2) pe_int (nomark _)))) pa_nil)) (pps_cons pe_str (pe_callTy call_intA rfl T.n_int (by decide +kernel) (pa_cons (pe_or (pe_cmpR op_gt (pv 1) pe_int (nomark _)) (pe_one (pe_cmpR op_gt (pv 2) pe_int (nomark _)))) pa_nil)) (pps_cons pe_str (pe_callTy call_intA rfl T.n_int (by decide +kernel) (pa_cons (pe_cmpR (op_eqA (hu64 hr)) (pv 1) (pv 2) (nomark _)) pa_nil)) pps_nil)))))) rfl rfl (by simp) (by decide))) (pss_cons (ps_dput (hu_of hr) (pv 3) pe_str (pe_callTy call_intA rfl T.n_int (by decide +kernel) (pa_cons (pe_cmpR (op_neA (hu64 hr)) (pv 1) (pv 2) (nomark _)) pa_nil)) rfl) (pss_cons (ps_dput (hu_of hr) (pv 3) pe_str (pe_callTy call_intA rfl T.n_int (by decide +kernel) (pa_cons (pe_cmpR op_lt (pv 1) (pv 2) (nomark _)) pa_nil)) rfl) (pss_cons (ps_dput (hu_of hr) (pv 3) pe_str (pe_callTy call_intA rfl T.n_int (by decide +kernel) (pa_cons (pe_cmpR op_le (pv 1) (pv 2) (nomark _)) pa_nil)) rfl) (pss_one (ps_ret (pe_op op_mod (pe_callTy call_intA rfl T.n_int (by decide +kernel) (pa_cons (pe_dget (hu_of hr) (pv 3) (pv 0) (fun _ _ => rfl)) pa_nil)) pe_int)))))))), ?_⟩
  try dsimp only [cxOf, Cx.nox]
  by_cases hdm : o = .div ∨ o = .mod
  · rcases hdm with rfl | rfl
    · simp only [calc2] at q
      repeat' walk_at "st"
      · rw [if_pos (by assumption)] at q
        exact q _ ke
      · rw [if_neg (by assumption)] at q
        exact q _ ke
    · simp only [calc2] at q
      repeat' walk_at "st"
      · rw [if_pos (by assumption)] at q
        exact q _ ke
      · rw [if_neg (by assumption)] at q
        exact q _ ke
  · have e0 := dm_in o (fun z => hdm (.inl z)) (fun z => hdm (.inr z))
    have hs : (a = 0 ∧ b = 0) ∨ (a = 0 ∧ 0 < b) ∨ (0 < a ∧ b = 0) ∨ (0 < a ∧ 0 < b ∧ a < b) ∨ (0 < a ∧ 0 < b ∧ a = b) ∨ (0 < a ∧ 0 < b ∧ b < a) := by omega
    repeat' walk_at "st"
    refine q_inTN (sqt hn) (show (true && true && !inV (V.str o.str) [.str "/", .str "mod"]) = true by rw [e0]; rfl) ?_
    rcases hs with ⟨s1, s2⟩ | ⟨s1, s2⟩ | ⟨s1, s2⟩ | ⟨s1, s2, s3⟩ | ⟨s1, s2, s3⟩ | ⟨s1, s2, s3⟩
    all_goals
      repeat' walk_at "st"
      all_goals first | (exfalso; omega) | skip
    all_goals
      have nd0 : H dp = none := free_back (by assumption) hdp
      have x1 : Ex H Hn := by walk_at "ex"
      refine q_disp (two6 (a + b) (a - b) (a * b) _ _ _) hdn rfl (by simp only [two6, List.map_cons, List.map_nil]; decide +kernel) (by show 6 ≤ 15; decide) (fun H3 kd hd3 => ?_)
      have x3 : Ex H H3 := fun b u hb => kd.out _ _ (nin_one (ne_of_none hb nd0)) (x1 _ _ hb)
      clear kd
      repeat' walk_at "st"
      all_goals first | (exfalso; omega) | skip
    all_goals
      refine q_dput hd3 (by show 6 ≤ 1000; decide) ?_
      generalize hq4 : upd H3 dp _ = H4
      have x4 : Ex H H4 := by rw [← hq4]; exact ex_updF x3 nd0
      have hd4 := at_new hq4
      clear hq4
      repeat' walk_at "st"
      all_goals first | (exfalso; omega) | skip
    all_goals
      refine q_dput hd4 (by show 7 ≤ 1000; decide) ?_
      generalize hq5 : upd H4 dp _ = H5
      have x5 : Ex H H5 := by rw [← hq5]; exact ex_updF x4 nd0
      have hd5 := at_new hq5
      clear hq5
      repeat' walk_at "st"
      all_goals first | (exfalso; omega) | skip
    all_goals
      refine q_dput hd5 (by show 8 ≤ 1000; decide) ?_
      generalize hq6 : upd H5 dp _ = H6
      have x6 : Ex H H6 := by rw [← hq6]; exact ex_updF x5 nd0
      have hd6 := at_new hq6
      clear hq6
      repeat' walk_at "st"
    all_goals
      refine q_dget hd6 (two_val _ _ _ _ _ _ _ _ _ o (fun z => hdm (.inl z)) (fun z => hdm (.inr z))) ?_
      repeat' walk_at "st"
      refine cast_q (two_eq o (fun z => hdm (.inl z)) (fun z => hdm (.inr z)) ?_ ?_ ?_ ?_ ?_ ?_).symm (q _ x6)
    all_goals (simp only [hold, b2, Bool.and_eq_true, Bool.or_eq_true, decide_eq_true_eq]; split <;> omega)
theorem c_two {o : Op} {a b : Int} {H : Hp} {Q : VK} {E : XK} (h1 : 0 ≤ a ∧ a < 65536) (h2 : 0 ≤ b ∧ b < 65536) (q : ∀ H', Ex H H' → Q (optV (calc2 o a b)) H') : sp_two [.str o.str, .int a, .int b] H Q E := ⟨o, a, b, rfl, h1, h2, q⟩
abbrev s_Code___init__ : Stmt := inClass (topS 1) 0
theorem sc_Code___init__ : FnScope ["self", "takes"] ["self", "takes"] (defScope s_Code___init__) := ⟨rfl, rfl, rfl, by decide +kernel, rfl, by decide +kernel, by decide +kernel⟩
abbrev p_Code___init__ : List Str := ["self", "takes"]
abbrev s_Code_place_of : Stmt := inClass (topS 1) 2
theorem sc_Code_place_of : FnScope ["self", "cell"] ["self", "cell"] (defScope s_Code_place_of) := ⟨rfl, rfl, rfl, by decide +kernel, rfl, by decide +kernel, by decide +kernel⟩
abbrev p_Code_place_of : List Str := ["self", "cell"]
abbrev s_Code_here : Stmt := inClass (topS 1) 3
theorem sc_Code_here : FnScope ["self"] ["self"] (defScope s_Code_here) := ⟨rfl, rfl, rfl, by decide +kernel, rfl, by decide +kernel, by decide +kernel⟩
abbrev p_Code_here : List Str := ["self"]
abbrev s_Code_emit : Stmt := inClass (topS 1) 4
theorem sc_Code_emit : FnScope ["self", "instruction"] ["self", "instruction"] (defScope s_Code_emit) := ⟨rfl, rfl, rfl, by decide +kernel, rfl, by decide +kernel, by decide +kernel⟩
abbrev p_Code_emit : List Str := ["self", "instruction"]
abbrev s_Code_new_place : Stmt := inClass (topS 1) 1
theorem sc_Code_new_place : FnScope ["self"] ["self"] (defScope s_Code_new_place) := ⟨rfl, rfl, rfl, by decide +kernel, rfl, by decide +kernel, by decide +kernel⟩
abbrev p_Code_new_place : List Str := ["self"]
abbrev s_compile_thread : Stmt := topS 2
theorem sc_compile_thread : FnScope ["thread", "_", "takes", "own", "code"] ["thread"] (defScope s_compile_thread) := ⟨rfl, rfl, rfl, by decide +kernel, rfl, by decide +kernel, by decide +kernel⟩
abbrev p_compile_thread : List Str := ["thread"]
abbrev s_add_expression : Stmt := topS 3
theorem sc_add_expression : FnScope ["code", "e", "kind"] ["code", "e"] (defScope s_add_expression) := ⟨rfl, rfl, rfl, by decide +kernel, rfl, by decide +kernel, by decide +kernel⟩
abbrev p_add_expression : List Str := ["code", "e"]
abbrev s_add_indexed : Stmt := topS 4
theorem sc_add_indexed : FnScope ["code", "name", "item", "_", "first", "size", "e"] ["code", "name", "item"] (defScope s_add_indexed) := ⟨rfl, rfl, rfl, by decide +kernel, rfl, by decide +kernel, by decide +kernel⟩
abbrev p_add_indexed : List Str := ["code", "name", "item"]
abbrev s_add_storing : Stmt := topS 5
theorem sc_add_storing : FnScope ["code", "target"] ["code", "target"] (defScope s_add_storing) := ⟨rfl, rfl, rfl, by decide +kernel, rfl, by decide +kernel, by decide +kernel⟩
abbrev p_add_storing : List Str := ["code", "target"]
abbrev s_add_statement : Stmt := topS 8
theorem sc_add_statement : FnScope ["code", "s", "kind", "action"] ["code", "s"] (defScope s_add_statement) := ⟨rfl, rfl, rfl, by decide +kernel, rfl, by decide +kernel, by decide +kernel⟩
abbrev p_add_statement : List Str := ["code", "s"]
abbrev s_add_set : Stmt := topS 9
theorem sc_add_set : FnScope ["code", "s"] ["code", "s"] (defScope s_add_set) := ⟨rfl, rfl, rfl, by decide +kernel, rfl, by decide +kernel, by decide +kernel⟩
abbrev p_add_set : List Str := ["code", "s"]
/-! ### the code while it is made -/
structure CdK (K : PySem.W.Frag) (C : Addr) : Prop where
  cl : Cls K C
  nT : NoAttr K C "takes"
  nP : NoAttr K C "places"
  nR : NoAttr K C "rows"
def cfl (t : Addr) (n : Int) (r : Addr) : List (Str × V) := [("takes", .ref t), ("places", .int n), ("rows", .ref r)]
/-- the code at p, its takes ks at t, its rows vs at r -/
structure CodAt (C : Addr) (H : Hp) (p dx t r : Addr) (n : Int) (ks : List Int) (vs : List V) : Prop where
  ob : H p = some (.ins C dx (cfl t n r))
  tk : H t = some (.lst (ks.map V.int))
  rw : H r = some (.lst vs)
  ne : r ≠ t
theorem CodAt.ex {C : Addr} {H H' : Hp} {p dx t r : Addr} {n : Int} {ks : List Int} {vs : List V} (e : Ex H H') (h : CodAt C H p dx t r n ks vs) : CodAt C H' p dx t r n ks vs := ⟨e _ _ h.ob, e _ _ h.tk, e _ _ h.rw, h.ne⟩
theorem CodAt.rp {C : Addr} {H : Hp} {p dx t r : Addr} {n : Int} {ks : List Int} {vs : List V} (h : CodAt C H p dx t r n ks vs) : r ≠ p := ne_of h.rw h.ob (by intro z; cases z)
theorem CodAt.add {C : Addr} {H : Hp} {p dx t r : Addr} {n : Int} {ks : List Int} {vs : List V} (h : CodAt C H p dx t r n ks vs) (v : V) : CodAt C (upd H r (.lst (vs ++ [v]))) p dx t r n ks (vs ++ [v]) :=
  ⟨by rw [upd_ne h.rp.symm]; exact h.ob, by rw [upd_ne h.ne.symm]; exact h.tk, upd_same, h.ne⟩
theorem CodAt.kp {C : Addr} {H : Hp} {p dx t r : Addr} {n : Int} {ks : List Int} {vs us : List V} (h : CodAt C H p dx t r n ks vs) : Kp [r] H (upd H r (.lst us)) := Kp.set (List.mem_singleton.mpr rfl) (fun xs z => by rw [h.rw] at z; cases z) rfl
variable {C : Addr}
def sp_emit (C : Addr) : Sp := fun vs H Q _ => ∃ (p dx t r : Addr) (n : Int) (ks : List Int) (us : List V) (v : V), vs = [.ref p, v] ∧ CodAt C H p dx t r n ks us ∧ us.length < 90000 ∧ ∀ H', Kp [r] H H' → CodAt C H' p dx t r n ks (us ++ [v]) → Q .non H'
theorem c_emit {p dx t r : Addr} {n : Int} {ks : List Int} {us : List V} {v : V} {H : Hp} {Q : VK} {E : XK} (h1 : CodAt C H p dx t r n ks us) (h2 : us.length < 90000) (q : ∀ H', Kp [r] H H' → CodAt C H' p dx t r n ks (us ++ [v]) → Q .non H') : sp_emit C [.ref p, v] H Q E :=
  ⟨p, dx, t, r, n, ks, us, v, rfl, h1, h2, q⟩
theorem ok_emit (T : Glo K w mg) (W : CdK K C) (D : DnM K C "emit" "Code.emit" s_Code_emit p_Code_emit) : MetC P w K mg base C "emit" 1 p_Code_emit (sp_emit C) := by
  have hc := W.cl
  have h1 := W.nT
  have h2 := W.nP
  have h3 := W.nR
  refine D.ok sc_Code_emit (fun vs H Q E h => ?_) (fun f cdv A outer s H vs Q E hr h => ?_)
  · obtain ⟨_, _, _, _, _, _, _, _, rfl, _⟩ := h
    rfl
  obtain ⟨p, dx, t, r, n, ks, us, v, rfl, ca, hl, q⟩ := h
  have hob := ca.ob
  simp only [cfl] at hob
  refine ⟨_, (pss_one (ps_expr (pe_bm PySem.F.plainAttrs_list PySem.F.slot_list_append PySem.F.type_list_append mt_append (pe_fld (pv 0) rfl) (pa_cons (pv 1) pa_nil)))), ?_⟩
  try dsimp only [cxOf, Cx.nox]
  repeat' walk_at "st"
  refine q_tyL ca.rw ?_
  repeat' walk_at "st"
  refine q_append ca.rw (by omega) ?_
  repeat' walk_at "st"
  exact q _ ca.kp (ca.add v)
def sp_pof (C : Addr) : Sp := fun vs H Q _ => ∃ (p dx t r : Addr) (n : Int) (ks : List Int) (us : List V) (k : Int) (j : Nat), vs = [.ref p, .int k] ∧ CodAt C H p dx t r n ks us ∧ ks[j]? = some k ∧ (∀ m, m < j → ks[m]? ≠ some k) ∧ Q (.int (j : Nat)) H
theorem c_pof {p dx t r : Addr} {n : Int} {ks : List Int} {us : List V} {k : Int} {j : Nat} {H : Hp} {Q : VK} {E : XK} (h1 : CodAt C H p dx t r n ks us) (h2 : ks[j]? = some k) (h3 : ∀ m, m < j → ks[m]? ≠ some k) (q : Q (.int (j : Nat)) H) : sp_pof C [.ref p, .int k] H Q E :=
  ⟨p, dx, t, r, n, ks, us, k, j, rfl, h1, h2, h3, q⟩
theorem flat_ints (ks : List Int) : (ks.map V.int).all flatV = true := by
  rw [List.all_map, List.all_eq_true]
  intro x _
  rfl
theorem ok_pof (T : Glo K w mg) (W : CdK K C) (D : DnM K C "place_of" "Code.place_of" s_Code_place_of p_Code_place_of) : MetC P w K mg base C "place_of" 1 p_Code_place_of (sp_pof C) := by
  have hc := W.cl
  have h1 := W.nT
  have h2 := W.nP
  have h3 := W.nR
  refine D.ok sc_Code_place_of (fun vs H Q E h => ?_) (fun f cdv A outer s H vs Q E hr h => ?_)
  · obtain ⟨_, _, _, _, _, _, _, _, _, rfl, _⟩ := h
    rfl
  obtain ⟨p, dx, t, r, n, ks, us, k, j, rfl, ca, hj, hm, q⟩ := h
  have hob := ca.ob
  simp only [cfl] at hob
  refine ⟨_, (pss_one (ps_ret (pe_bm PySem.F.plainAttrs_list PySem.F.slot_list_index PySem.F.type_list_index mt_indexA (pe_fld (pv 0) rfl) (pa_cons (pv 1) pa_nil)))), ?_⟩
  try dsimp only [cxOf, Cx.nox]
  repeat' walk_at "st"
  refine q_tyL ca.tk ?_
  repeat' walk_at "st"
  refine ⟨t, _, .int k, j, .int k, rfl, rfl, sql ca.tk, rfl, flat_ints ks, by rw [List.getElem?_map, hj]; rfl, by simp [eqV], fun m z hm2 hz => ?_, q⟩
  rw [List.getElem?_map] at hz
  obtain ⟨u, hu, rfl⟩ := Option.map_eq_some_iff.mp hz
  have : u ≠ k := fun e => hm m hm2 (by rw [hu, e])
  simpa [eqV] using this
def sp_cinit (C : Addr) : Sp := fun vs H Q _ => ∃ (p t dx : Addr) (ks : List Int), vs = [.ref p, .ref t] ∧ H p = some (.ins C dx []) ∧ H t = some (.lst (ks.map V.int)) ∧ t ≠ p ∧ ∀ H' r, H r = none → CodAt C H' p dx t r ks.length ks [] → Kp [p] H H' → Q .non H'
theorem ok_cinit (T : Glo K w mg) (W : CdK K C) (D : DnI K mg "Code" "Code.__init__" C s_Code___init__ p_Code___init__) : MakC P w K mg base "Code" C 1 p_Code___init__ (sp_cinit C) := by
  have hc := W.cl
  have h1 := W.nT
  have h2 := W.nP
  have h3 := W.nR
  refine D.ok sc_Code___init__ (fun vs H Q E h => ?_) (fun f cdv A outer s H vs Q E hr h => ?_)
  · obtain ⟨_, _, _, _, rfl, _⟩ := h
    rfl
  obtain ⟨o, t, dx, ks, rfl, hob, ht, hne, q⟩ := h
  refine ⟨_, (pss_cons (ps_fld (pv 0) (pv 1) rfl) (pss_cons (ps_fld (pv 0) (pe_callB call_lenA rfl T.n_len (by decide +kernel) (pa_cons (pv 1) pa_nil)) rfl) (pss_one (ps_fld (pv 0) (pe_lst pa_nil) rfl)))), ?_⟩
  try dsimp only [cxOf, Cx.nox]
  repeat' walk_at "st"
  have nto := hne.symm
  rw [List.length_map] at hu
  have npo : p ≠ o := by walk_at "ne1"
  exact q _ p (by walk_at "frees") ⟨hu, by walk_at "lift", by walk_at "lift", by walk_at "ne1"⟩ (by walk_at "kpx")
/-! ### rows of an expression's code -/
inductive IRow | op (x : Str) (ns : List Int) | cal (o : Op)
def IRow.In (H : Hp) : IRow → V → Prop
  | .op x ns, v => ∃ q, v = .ref q ∧ H q = some (.tup (.str x :: ns.map V.int))
  | .cal o, v => ∃ q, v = .ref q ∧ H q = some (.tup [.str "calc", .str o.str])
theorem IRow.In.up {H H' : Hp} (k : ∀ p xs, H p = some (.tup xs) → H' p = some (.tup xs)) : ∀ {i : IRow} {v : V}, i.In H v → i.In H' v
  | .op _ _, _, ⟨q, h, a⟩ => ⟨q, h, k _ _ a⟩
  | .cal _, _, ⟨q, h, a⟩ => ⟨q, h, k _ _ a⟩
/-- the rows stand at vs -/
def RowsIn (H : Hp) (is : List IRow) (vs : List V) : Prop := Paired (fun i v => IRow.In H i v) is vs
theorem paired_imp {α β : Type} {F G : α → β → Prop} (k : ∀ a b, F a b → G a b) : ∀ {xs : List α} {ys : List β}, Paired F xs ys → Paired G xs ys
  | _, _, .nil => .nil
  | _, _, .cons a t => .cons (k _ _ a) (paired_imp k t)
theorem paired_app {α β : Type} {F : α → β → Prop} {xs' : List α} {ys' : List β} (h : Paired F xs' ys') : ∀ {xs : List α} {ys : List β}, Paired F xs ys → Paired F (xs ++ xs') (ys ++ ys')
  | _, _, .nil => h
  | _, _, .cons a t => .cons a (paired_app h t)
theorem paired_len {α β : Type} {F : α → β → Prop} : ∀ {xs : List α} {ys : List β}, Paired F xs ys → xs.length = ys.length
  | _, _, .nil => rfl
  | _, _, .cons _ t => by rw [List.length_cons, List.length_cons, paired_len t]
theorem RowsIn.kp {M : List Addr} {H H' : Hp} {is : List IRow} {vs : List V} (k : Kp M H H') (h : RowsIn H is vs) : RowsIn H' is vs := paired_imp (fun _ _ a => a.up k.tup) h
theorem RowsIn.one {H : Hp} {i : IRow} {v : V} (h : i.In H v) : RowsIn H [i] [v] := .cons h .nil
def ixf : List Int → Int → Nat
  | [], _ => 0
  | x :: r, k => if x = k then 0 else ixf r k + 1
theorem ixf_ok : ∀ {ks : List Int} {k : Int}, k ∈ ks → ks[ixf ks k]? = some k ∧ ∀ m, m < ixf ks k → ks[m]? ≠ some k
  | [], _, h => by cases h
  | x :: r, k, h => by
    by_cases e : x = k
    · unfold ixf
      rw [if_pos e]
      exact ⟨by rw [e]; rfl, fun m hm => absurd hm (Nat.not_lt_zero m)⟩
    · have h' : k ∈ r := by
        rcases List.mem_cons.mp h with z | z
        · exact absurd z.symm e
        · exact z
      obtain ⟨h1, h2⟩ := ixf_ok h'
      unfold ixf
      rw [if_neg e]
      refine ⟨by rw [List.getElem?_cons_succ]; exact h1, fun m hm => ?_⟩
      cases m with
      | zero => exact fun z => e (by simpa using z)
      | succ m =>
        rw [List.getElem?_cons_succ]
        exact h2 m (by omega)
def Tm.code (ks : List Int) : Tm → List IRow
  | .num n => [.op "push" [n]]
  | .cell k => [.op "load" [ixf ks k]]
  | .at f s e => e.code ks ++ [.op "loadx" [ixf ks f, s]]
  | .neg e => e.code ks ++ [.op "neg" []]
  | .not e => e.code ks ++ [.op "not" []]
  | .bin o a b => a.code ks ++ b.code ks ++ [.cal o]
def Tm.over (ks : List Int) : Tm → Prop
  | .num _ => True
  | .cell k => k ∈ ks
  | .at f _ e => f ∈ ks ∧ e.over ks
  | .neg e => e.over ks
  | .not e => e.over ks
  | .bin _ a b => a.over ks ∧ b.over ks
variable {C : Addr}
def sp_expr (C : Addr) (d : Nat) : Sp := fun vs H Q _ => ∃ (p dx t r : Addr) (n : Int) (ks : List Int) (us : List V) (e : Tm) (v : V), vs = [.ref p, v] ∧ CodAt C H p dx t r n ks us ∧ e.In H v ∧ e.deep ≤ d ∧ e.over ks ∧ us.length + (e.code ks).length ≤ 80000 ∧
  ∀ H' us', Kp [r] H H' → RowsIn H' (e.code ks) us' → CodAt C H' p dx t r n ks (us ++ us') → Q .non H'
theorem c_expr {d : Nat} {p dx t r : Addr} {n : Int} {ks : List Int} {us : List V} {e : Tm} {v : V} {H : Hp} {Q : VK} {E : XK} (h1 : CodAt C H p dx t r n ks us) (h2 : e.In H v) (h3 : e.deep ≤ d) (h4 : e.over ks) (h5 : us.length + (e.code ks).length ≤ 80000)
    (q : ∀ H' us', Kp [r] H H' → RowsIn H' (e.code ks) us' → CodAt C H' p dx t r n ks (us ++ us') → Q .non H') : sp_expr C d [.ref p, v] H Q E := ⟨p, dx, t, r, n, ks, us, e, v, rfl, h1, h2, h3, h4, h5, q⟩
def sp_indexed (C : Addr) (d : Nat) : Sp := fun vs H Q _ => ∃ (p dx t r a : Addr) (n : Int) (ks : List Int) (us : List V) (e : Tm) (v0 v : V) (x : Str) (f s : Int), vs = [.ref p, .str x, .ref a] ∧ CodAt C H p dx t r n ks us ∧ H a = some (.tup [v0, .int f, .int s, v]) ∧ e.In H v ∧ e.deep ≤ d ∧ f ∈ ks ∧ e.over ks ∧
  us.length + (e.code ks).length ≤ 80000 ∧ ∀ H' us', Kp [r] H H' → RowsIn H' (e.code ks ++ [.op x [ixf ks f, s]]) us' → CodAt C H' p dx t r n ks (us ++ us') → Q .non H'
theorem c_indexed {d : Nat} {p dx t r a : Addr} {n : Int} {ks : List Int} {us : List V} {e : Tm} {v0 v : V} {x : Str} {f s : Int} {H : Hp} {Q : VK} {E : XK} (h1 : CodAt C H p dx t r n ks us) (h2 : H a = some (.tup [v0, .int f, .int s, v])) (h3 : e.In H v) (h4 : e.deep ≤ d) (h5 : f ∈ ks) (h6 : e.over ks) (h7 : us.length + (e.code ks).length ≤ 80000)
    (q : ∀ H' us', Kp [r] H H' → RowsIn H' (e.code ks ++ [.op x [ixf ks f, s]]) us' → CodAt C H' p dx t r n ks (us ++ us') → Q .non H') : sp_indexed C d [.ref p, .str x, .ref a] H Q E := ⟨p, dx, t, r, a, n, ks, us, e, v0, v, x, f, s, rfl, h1, h2, h3, h4, h5, h6, h7, q⟩
theorem ok_indexed (T : Glo K w mg) (W : CdK K C) {d l : Nat} (D : Dn K mg "add_indexed" s_add_indexed p_add_indexed) (hl : 1 ≤ l) (G_Code_emit : MetC P w K mg base C "emit" 1 p_Code_emit (sp_emit C)) (G_Code_place_of : MetC P w K mg base C "place_of" 1 p_Code_place_of (sp_pof C))
    (G_add_expression : Cal P w K mg base "add_expression" l p_add_expression (sp_expr C d)) : Cal P w K mg base "add_indexed" (l + 1) p_add_indexed (sp_indexed C d) := by
  refine D.ok sc_add_indexed (fun vs H Q E h => ?_) (fun f cdv A outer s H vs Q E hr h => ?_)
  · obtain ⟨_, _, _, _, _, _, _, _, _, _, _, _, _, _, rfl, _⟩ := h
    rfl
  obtain ⟨o, dx, t, r, a, n, ks, us, e, v0, v, x, fi, si, rfl, ca, ha, hin, hd, hf, ho, hz, q⟩ := h
  refine ⟨_, (pss_cons (ps_asg (pv 2) (pg_tup rfl (pgs_cons (pg_name (i := 3) sc_add_indexed.nd rfl (by first | exact Or.inl rfl | exact Or.inr rfl)) (pgs_cons (pg_name (i := 4) sc_add_indexed.nd rfl (by first | exact Or.inl rfl | exact Or.inr rfl)) (pgs_cons (pg_name (i := 5) sc_add_indexed.nd rfl (by first | exact Or.inl rfl | exact Or.inr rfl)) (pgs_cons (pg_name (i := 6) sc_add_indexed.nd rfl (by first | exact Or.inl rfl | exact Or.inr rfl)) pgs_nil)))))) (pss_cons (ps_expr (pe_cal G_add_expression (hr.mono (by walk_at "lev")) rfl (pa_cons (pv 0) (pa_cons (pv 6) pa_nil)))) (pss_one (ps_expr (pe_mtC G_Code_emit (hr.mono (by walk_at "lev")) (pv 0) (pa_cons (pe_tup (pa_cons (pv 1) (pa_cons (pe_mtC G_Code_place_of (hr.mono (by walk_at "lev")) (pv 0) (pa_cons (pv 4) pa_nil)) (pa_cons (pv 5) pa_nil)))) pa_nil)))))), ?_⟩
  try dsimp only [cxOf, Cx.nox]
  repeat' walk_at "st"
  refine c_expr ca hin hd ho hz (fun H1 us1 k1 r1 ca1 => ?_)
  have ob1 := ca1.ob
  simp only [cfl] at ob1
  repeat' walk_at "st"
  obtain ⟨i1, i2⟩ := ixf_ok hf
  refine c_pof ca1 i1 i2 ?_
  repeat' walk_at "st"
  have l1 := paired_len r1
  have ca2 := ca1.ex ke
  refine c_emit ca2 (by rw [List.length_append]; omega) (fun H3 k3 ca3 => ?_)
  rw [List.append_assoc] at ca3
  refine q H3 (us1 ++ [.ref p]) ((k1.trans ke.kp).trans k3) ?_ ca3
  exact paired_app (RowsIn.one (i := .op x [ixf ks fi, si]) ⟨p, rfl, k3.tup _ _ hn⟩) (RowsIn.kp (ke.kp.trans k3) r1)
theorem expr_none (D : Dn K mg "add_expression" s_add_expression p_add_expression) : Cal P w K mg base "add_expression" 1 p_add_expression (sp_expr C 0) := by
  refine D.ok sc_add_expression (fun vs H Q E h => ?_) (fun f cdv A outer s H vs Q E hr h => ?_)
  · obtain ⟨_, _, _, _, _, _, _, _, _, rfl, _⟩ := h
    rfl
  · obtain ⟨_, _, _, _, _, _, _, e, _, _, _, _, h, _⟩ := h
    exact absurd (e.deep_pos) (by omega)
theorem ok_expr (T : Glo K w mg) (W : CdK K C) {d l : Nat} (D : Dn K mg "add_expression" s_add_expression p_add_expression) (hl : 1 ≤ l) (G_Code_emit : MetC P w K mg base C "emit" 1 p_Code_emit (sp_emit C)) (G_Code_place_of : MetC P w K mg base C "place_of" 1 p_Code_place_of (sp_pof C))
    (G_add_expression : Cal P w K mg base "add_expression" l p_add_expression (sp_expr C d)) (G_add_indexed : Cal P w K mg base "add_indexed" (l + 1) p_add_indexed (sp_indexed C d)) : Cal P w K mg base "add_expression" (l + 2) p_add_expression (sp_expr C (d + 1)) := by
  refine D.ok sc_add_expression (fun vs H Q E h => ?_) (fun f cdv A outer s H vs Q E hr h => ?_)
  · obtain ⟨_, _, _, _, _, _, _, _, _, rfl, _⟩ := h
    rfl
  obtain ⟨o, dx, t, r, n, ks, us, e, v, rfl, ca, hin, hd, ho, hz, q⟩ := h
  refine ⟨_, (pss_cons (ps_set (i := 2) sc_add_expression.nd rfl (by first | exact Or.inl rfl | exact Or.inr rfl) (pe_ix ix_seq (pv 1) pe_int (fun _ _ => rfl))) (pss_one (ps_if (pt_cmpR (op_eqA (hu64 hr)) (pv 2) pe_str (nomark _)) (pss_one (ps_expr (pe_mtC G_Code_emit (hr.mono (by walk_at "lev")) (pv 0) (pa_cons (pe_tup (pa_cons pe_str (pa_cons (pe_ix ix_seq (pv 1) pe_int (fun _ _ => rfl)) pa_nil))) pa_nil)))) (pss_one (ps_if (pt_cmpR (op_eqA (hu64 hr)) (pv 2) pe_str (nomark _)) (pss_one (ps_expr (pe_mtC G_Code_emit (hr.mono (by walk_at "lev")) (pv 0) (pa_cons (pe_tup (pa_cons pe_str (pa_cons (pe_mtC G_Code_place_of (hr.mono (by walk_at "lev")) (pv 0) (pa_cons (pe_ix ix_seq (pv 1) pe_int (fun _ _ => rfl)) pa_nil)) pa_nil))) pa_nil)))) (pss_one (ps_if (pt_cmpR (op_eqA (hu64 hr)) (pv 2) pe_str (nomark _)) (pss_one (ps_expr (pe_cal G_add_indexed (hr.mono (by walk_at "lev")) rfl (pa_cons (pv 0) (pa_cons pe_str (pa_cons (pv 1) pa_nil)))))) (pss_one (ps_if (PW.pt (pw_or (pt_cmpR (op_eqA (hu64 hr)) (pv 2) pe_str (nomark _)) (pw_or1 (pt_cmpR (op_eqA (hu64 hr)) (pv 2) pe_str (nomark _))))) (pss_cons (ps_expr (pe_cal G_add_expression (hr.mono (by walk_at "lev")) rfl (pa_cons (pv 0) (pa_cons (pe_ix ix_seq (pv 1) pe_int (fun _ _ => rfl)) pa_nil)))) (pss_one (ps_expr (pe_mtC G_Code_emit (hr.mono (by walk_at "lev")) (pv 0) (pa_cons (pe_tup (pa_cons (pv 2) pa_nil)) pa_nil))))) (pss_cons (ps_expr (pe_cal G_add_expression (hr.mono (by walk_at "lev")) rfl (pa_cons (pv 0) (pa_cons (pe_ix ix_seq (pv 1) pe_int (fun _ _ => rfl)) pa_nil)))) (pss_cons (ps_expr (pe_cal G_add_expression (hr.mono (by walk_at "lev")) rfl (pa_cons (pv 0) (pa_cons (pe_ix ix_seq (pv 1) pe_int (fun _ _ => rfl)) pa_nil)))) (pss_one (ps_expr (pe_mtC G_Code_emit (hr.mono (by walk_at "lev")) (pv 0) (pa_cons (pe_tup (pa_cons pe_str (pa_cons (pv 2) pa_nil))) pa_nil))))))))))))))), ?_⟩
  try dsimp only [cxOf, Cx.nox]
  have ob := ca.ob
  simp only [cfl] at ob
  cases e
  case num z =>
    obtain ⟨p0, rfl, hp0⟩ := hin
    repeat' walk_at "st"
    simp only [Tm.code, List.length_singleton] at hz
    refine c_emit (ca.ex ke) (by omega) (fun H3 k3 ca3 => ?_)
    exact q H3 [.ref p] (ke.kp.trans k3) (RowsIn.one (i := .op "push" [z]) ⟨p, rfl, k3.tup _ _ hn⟩) ca3
  case cell z =>
    obtain ⟨p0, rfl, hp0⟩ := hin
    obtain ⟨i1, i2⟩ := ixf_ok (show z ∈ ks from ho)
    repeat' walk_at "st"
    refine c_pof ca i1 i2 ?_
    repeat' walk_at "st"
    simp only [Tm.code, List.length_singleton] at hz
    refine c_emit (ca.ex ke) (by omega) (fun H3 k3 ca3 => ?_)
    exact q H3 [.ref p] (ke.kp.trans k3) (RowsIn.one (i := .op "load" [ixf ks z]) ⟨p, rfl, k3.tup _ _ hn⟩) ca3
  case «at» fi si e =>
    obtain ⟨p0, x, rfl, hp0, hx⟩ := hin
    simp only [Tm.code, List.length_append, List.length_singleton] at hz
    simp only [Tm.deep] at hd
    repeat' walk_at "st"
    exact c_indexed ca hp0 hx (by omega) ho.1 ho.2 (by omega) q
  case neg e =>
    obtain ⟨p0, x, rfl, hp0, hx⟩ := hin
    simp only [Tm.code, List.length_append, List.length_singleton] at hz
    simp only [Tm.deep] at hd
    repeat' walk_at "st"
    refine c_expr ca hx (by omega) ho (by omega) (fun H1 us1 k1 r1 ca1 => ?_)
    have l1 := paired_len r1
    have ob1 := ca1.ob
    simp only [cfl] at ob1
    repeat' walk_at "st"
    refine c_emit (ca1.ex ke) (by rw [List.length_append]; omega) (fun H3 k3 ca3 => ?_)
    rw [List.append_assoc] at ca3
    refine q H3 (us1 ++ [V.ref p]) ((k1.trans ke.kp).trans k3) ?_ ca3
    show RowsIn H3 (e.code ks ++ [.op "neg" []]) _
    exact paired_app (RowsIn.one (i := .op "neg" []) ⟨p, rfl, k3.tup _ _ hn⟩) (RowsIn.kp (ke.kp.trans k3) r1)
  case not e =>
    obtain ⟨p0, x, rfl, hp0, hx⟩ := hin
    simp only [Tm.code, List.length_append, List.length_singleton] at hz
    simp only [Tm.deep] at hd
    repeat' walk_at "st"
    refine c_expr ca hx (by omega) ho (by omega) (fun H1 us1 k1 r1 ca1 => ?_)
    have l1 := paired_len r1
    have ob1 := ca1.ob
    simp only [cfl] at ob1
    repeat' walk_at "st"
    refine c_emit (ca1.ex ke) (by rw [List.length_append]; omega) (fun H3 k3 ca3 => ?_)
    rw [List.append_assoc] at ca3
    refine q H3 (us1 ++ [V.ref p]) ((k1.trans ke.kp).trans k3) ?_ ca3
    show RowsIn H3 (e.code ks ++ [.op "not" []]) _
    exact paired_app (RowsIn.one (i := .op "not" []) ⟨p, rfl, k3.tup _ _ hn⟩) (RowsIn.kp (ke.kp.trans k3) r1)
  case bin op a b =>
    obtain ⟨p0, x, y, rfl, hp0, hx, hy⟩ := hin
    simp only [Tm.code, List.length_append, List.length_singleton] at hz
    simp only [Tm.deep] at hd
    repeat' walk_at "st"
    refine c_expr ca hx (by omega) ho.1 (by omega) (fun H1 us1 k1 r1 ca1 => ?_)
    have l1 := paired_len r1
    have ob1 := ca1.ob
    simp only [cfl] at ob1
    have hp1 := k1.tup _ _ hp0
    repeat' walk_at "st"
    refine c_expr ca1 (tm_kp k1 hy) (by omega) ho.2 (by rw [List.length_append]; omega) (fun H2 us2 k2 r2 ca2 => ?_)
    have l2 := paired_len r2
    have ob2 := ca2.ob
    simp only [cfl] at ob2
    repeat' walk_at "st"
    refine c_emit (ca2.ex ke) (by rw [List.length_append, List.length_append]; omega) (fun H3 k3 ca3 => ?_)
    rw [List.append_assoc, List.append_assoc] at ca3
    refine q H3 (us1 ++ (us2 ++ [.ref p])) (((k1.trans k2).trans ke.kp).trans k3) ?_ ca3
    show RowsIn H3 (a.code ks ++ b.code ks ++ [.cal op]) _
    rw [List.append_assoc]
    exact paired_app (paired_app (RowsIn.one (i := .cal op) ⟨p, rfl, k3.tup _ _ hn⟩) (RowsIn.kp (ke.kp.trans k3) r2)) (RowsIn.kp ((k2.trans ke.kp).trans k3) r1)
theorem expr_all (T : Glo K w mg) (W : CdK K C) (D : Dn K mg "add_expression" s_add_expression p_add_expression) (D' : Dn K mg "add_indexed" s_add_indexed p_add_indexed) (G_Code_emit : MetC P w K mg base C "emit" 1 p_Code_emit (sp_emit C)) (G_Code_place_of : MetC P w K mg base C "place_of" 1 p_Code_place_of (sp_pof C)) : ∀ d,
    Cal P w K mg base "add_expression" (2 * d + 1) p_add_expression (sp_expr C d)
  | 0 => expr_none D
  | d + 1 => by
    have ih := expr_all T W D D' G_Code_emit G_Code_place_of d
    exact ok_expr T W D (by omega) G_Code_emit G_Code_place_of ih (ok_indexed T W D' (by omega) G_Code_emit G_Code_place_of ih)
def sp_storing (C : Addr) : Sp := fun vs H Q _ => ∃ (p dx t r a : Addr) (n : Int) (ks : List Int) (us : List V) (k : Int), vs = [.ref p, .ref a] ∧ CodAt C H p dx t r n ks us ∧ H a = some (.tup [.str "cell", .int k]) ∧ k ∈ ks ∧ us.length ≤ 80000 ∧
  ∀ H' us', Kp [r] H H' → RowsIn H' [.op "store" [ixf ks k]] us' → CodAt C H' p dx t r n ks (us ++ us') → Q .non H'
theorem c_storing {p dx t r a : Addr} {n : Int} {ks : List Int} {us : List V} {k : Int} {H : Hp} {Q : VK} {E : XK} (h1 : CodAt C H p dx t r n ks us) (h2 : H a = some (.tup [.str "cell", .int k])) (h3 : k ∈ ks) (h4 : us.length ≤ 80000)
    (q : ∀ H' us', Kp [r] H H' → RowsIn H' [.op "store" [ixf ks k]] us' → CodAt C H' p dx t r n ks (us ++ us') → Q .non H') : sp_storing C [.ref p, .ref a] H Q E := ⟨p, dx, t, r, a, n, ks, us, k, rfl, h1, h2, h3, h4, q⟩
theorem ok_storing (T : Glo K w mg) (W : CdK K C) {d l : Nat} (D : Dn K mg "add_storing" s_add_storing p_add_storing) (hl : 1 ≤ l) (G_Code_emit : MetC P w K mg base C "emit" 1 p_Code_emit (sp_emit C)) (G_Code_place_of : MetC P w K mg base C "place_of" 1 p_Code_place_of (sp_pof C))
    (G_add_indexed : Cal P w K mg base "add_indexed" l p_add_indexed (sp_indexed C d)) : Cal P w K mg base "add_storing" (l + 1) p_add_storing (sp_storing C) := by
  refine D.ok sc_add_storing (fun vs H Q E h => ?_) (fun f cdv A outer s H vs Q E hr h => ?_)
  · obtain ⟨_, _, _, _, _, _, _, _, _, rfl, _⟩ := h
    rfl
  obtain ⟨o, dx, t, r, a, n, ks, us, k, rfl, ca, ha, hk, hz, q⟩ := h
  obtain ⟨i1, i2⟩ := ixf_ok hk
  have ob := ca.ob
  simp only [cfl] at ob
  refine ⟨_, (pss_one (ps_if (pt_cmpR (op_eqA (hu64 hr)) (pe_ix ix_seq (pv 1) pe_int (fun _ _ => rfl)) pe_str (nomark _)) (pss_one (ps_expr (pe_mtC G_Code_emit (hr.mono (by walk_at "lev")) (pv 0) (pa_cons (pe_tup (pa_cons pe_str (pa_cons (pe_mtC G_Code_place_of (hr.mono (by walk_at "lev")) (pv 0) (pa_cons (pe_ix ix_seq (pv 1) pe_int (fun _ _ => rfl)) pa_nil)) pa_nil))) pa_nil)))) (pss_one (ps_expr (pe_cal G_add_indexed (hr.mono (by walk_at "lev")) rfl (pa_cons (pv 0) (pa_cons pe_str (pa_cons (pv 1) pa_nil)))))))), ?_⟩
  try dsimp only [cxOf, Cx.nox]
  repeat' walk_at "st"
  refine c_pof ca i1 i2 ?_
  repeat' walk_at "st"
  refine c_emit (ca.ex ke) (by omega) (fun H3 k3 ca3 => ?_)
  exact q H3 [V.ref p] (ke.kp.trans k3) (RowsIn.one (i := .op "store" [ixf ks k]) ⟨p, rfl, k3.tup _ _ hn⟩) ca3
/-- a set of a cell -/
def SetIn (H : Hp) (a : Addr) (k : Int) (e : Tm) : Prop := ∃ b x, H a = some (.tup [.str "set", .ref b, x]) ∧ H b = some (.tup [.str "cell", .int k]) ∧ e.In H x
def setRows (ks : List Int) (k : Int) (e : Tm) : List IRow := e.code ks ++ [.op "store" [ixf ks k]]
def sp_set (C : Addr) (d : Nat) : Sp := fun vs H Q _ => ∃ (p dx t r a : Addr) (n : Int) (ks : List Int) (us : List V) (e : Tm) (k : Int), vs = [.ref p, .ref a] ∧ CodAt C H p dx t r n ks us ∧ SetIn H a k e ∧ k ∈ ks ∧ e.deep ≤ d ∧ e.over ks ∧ us.length + (e.code ks).length ≤ 80000 ∧
  ∀ H' us', Kp [r] H H' → RowsIn H' (setRows ks k e) us' → CodAt C H' p dx t r n ks (us ++ us') → Q .non H'
theorem c_set {d : Nat} {p dx t r a : Addr} {n : Int} {ks : List Int} {us : List V} {e : Tm} {k : Int} {H : Hp} {Q : VK} {E : XK} (h1 : CodAt C H p dx t r n ks us) (h2 : SetIn H a k e) (h3 : k ∈ ks) (h4 : e.deep ≤ d) (h5 : e.over ks) (h6 : us.length + (e.code ks).length ≤ 80000)
    (q : ∀ H' us', Kp [r] H H' → RowsIn H' (setRows ks k e) us' → CodAt C H' p dx t r n ks (us ++ us') → Q .non H') : sp_set C d [.ref p, .ref a] H Q E := ⟨p, dx, t, r, a, n, ks, us, e, k, rfl, h1, h2, h3, h4, h5, h6, q⟩
theorem ok_set (T : Glo K w mg) {d l : Nat} (D : Dn K mg "add_set" s_add_set p_add_set) (G_add_storing : Cal P w K mg base "add_storing" l p_add_storing (sp_storing C)) (G_add_expression : Cal P w K mg base "add_expression" l p_add_expression (sp_expr C d)) : Cal P w K mg base "add_set" (l + 1) p_add_set (sp_set C d) := by
  refine D.ok sc_add_set (fun vs H Q E h => ?_) (fun f cdv A outer s H vs Q E hr h => ?_)
  · obtain ⟨_, _, _, _, _, _, _, _, _, _, rfl, _⟩ := h
    rfl
  obtain ⟨o, dx, t, r, a, n, ks, us, e, k, rfl, ca, ⟨b, x, ha, hb, hx⟩, hk, hd, ho, hz, q⟩ := h
  refine ⟨_, (pss_cons (ps_expr (pe_cal G_add_expression (hr.mono (by walk_at "lev")) rfl (pa_cons (pv 0) (pa_cons (pe_ix ix_seq (pv 1) pe_int (fun _ _ => rfl)) pa_nil)))) (pss_one (ps_expr (pe_cal G_add_storing (hr.mono (by walk_at "lev")) rfl (pa_cons (pv 0) (pa_cons (pe_ix ix_seq (pv 1) pe_int (fun _ _ => rfl)) pa_nil)))))), ?_⟩
  try dsimp only [cxOf, Cx.nox]
  repeat' walk_at "st"
  refine c_expr ca hx hd ho hz (fun H1 us1 k1 r1 ca1 => ?_)
  have l1 := paired_len r1
  have ha1 := k1.tup _ _ ha
  repeat' walk_at "st"
  refine c_storing ca1 (k1.tup _ _ hb) hk (by rw [List.length_append]; omega) (fun H2 us2 k2 r2 ca2 => ?_)
  rw [List.append_assoc] at ca2
  exact q H2 _ (k1.trans k2) (paired_app r2 (RowsIn.kp k2 r1)) ca2
/-- the table of the statements holds add_set -/
def Added (K : PySem.W.Frag) (w : World) (mg : Str → Option Value) : Prop := ∃ a f, mg "ADDED" = some (.ref a) ∧ KDct K w a "set" (.ref f) ∧ mg "add_set" = some (.ref f)
theorem ok_stmt (T : Glo K w mg) (AD : Added K w mg) {d l : Nat} (D : Dn K mg "add_statement" s_add_statement p_add_statement) (G_Code_emit : MetC P w K mg base C "emit" 1 p_Code_emit (sp_emit C)) (hl : 1 ≤ l) (G_add_set : Cal P w K mg base "add_set" l p_add_set (sp_set C d)) : Cal P w K mg base "add_statement" (l + 1) p_add_statement (sp_set C d) := by
  obtain ⟨fs, fd, F_add_set, m_add_set, K_add_set, B_add_set⟩ := G_add_set
  obtain ⟨aD, fD, g_ADDED, kD, mD⟩ := AD
  have efs : fD = fs := by
    rw [mD] at m_add_set
    cases m_add_set
    rfl
  subst efs
  refine D.ok sc_add_statement (fun vs H Q E h => ?_) (fun f cdv A outer s H vs Q E hr h => ?_)
  · obtain ⟨_, _, _, _, _, _, _, _, _, _, rfl, _⟩ := h
    rfl
  obtain ⟨o, dx, t, r, a, n, ks, us, e, k, rfl, ca, ⟨b, x, ha, hb, hx⟩, hk, hd, ho, hz, q⟩ := h
  refine ⟨_, (pss_cons (ps_set (i := 2) sc_add_statement.nd rfl (by first | exact Or.inl rfl | exact Or.inr rfl) (pe_ix ix_seq (pv 1) pe_int (fun _ _ => rfl))) (pss_cons (ps_if (pt_cmpR (op_eqA (hu64 hr)) (pv 2) pe_str (nomark _)) (pss_one ps_retN) pss_nil) (pss_cons (ps_if (pt_cmpR (op_eqA (hu64 hr)) (pv 2) pe_str (nomark _)) (pss_cons (ps_expr (pe_mtC G_Code_emit (hr.mono (by walk_at "lev")) (pv 0) (pa_cons (pe_tup (pa_cons pe_str pa_nil)) pa_nil))) (pss_one ps_retN)) pss_nil) (pss_cons (ps_set (i := 3) sc_add_statement.nd rfl (by first | exact Or.inl rfl | exact Or.inr rfl) (pe_ix ix_kdA (pe_globR rfl g_ADDED) (pv 2) (fun _ _ => rfl))) (pss_one (ps_expr (pe_callL F_add_set (hr.mono (by walk_at "lev")) (i := 3) rfl (.inl rfl) K_add_set B_add_set .nil pass0 (pa_cons (pv 0) (pa_cons (pv 1) pa_nil))))))))), ?_⟩
  try dsimp only [cxOf, Cx.nox]
  repeat' walk_at "st"
  refine q_kd kD ?_
  repeat' walk_at "st"
  refine ⟨rfl, ?_⟩
  repeat' walk_at "st"
  exact c_set ca ⟨b, x, ha, hb, hx⟩ hk hd ho hz q
def sp_comp : Sp := fun vs H Q _ => ∃ (th t a : Addr) (v0 v2 : V) (ks : List Int) (e : Tm) (k : Int), vs = [.ref th] ∧ H th = some (.tup [v0, .ref t, v2, .ref a]) ∧ H t = some (.lst (ks.map V.int)) ∧ SetIn H a k e ∧ k ∈ ks ∧ e.over ks ∧ ks.length ≤ 1000 ∧ (e.code ks).length ≤ 80000 ∧ e.deep ≤ 20 ∧
  ∀ H' p r us, Ex H H' → H r = none → H' p = some (.tup [.int ks.length, .ref r]) → H' r = some (.lst us) → RowsIn H' (setRows ks k e ++ [.op "end" []]) us → Q (.ref p) H'
theorem ok_comp (T : Glo K w mg) (W : CdK K C) {l : Nat} (D : Dn K mg "compile_thread" s_compile_thread p_compile_thread) (hl : 1 ≤ l) (M_Code : MakC P w K mg base "Code" C 1 p_Code___init__ (sp_cinit C)) (G_Code_emit : MetC P w K mg base C "emit" 1 p_Code_emit (sp_emit C))
    (G_add_statement : Cal P w K mg base "add_statement" l p_add_statement (sp_set C 21)) : Cal P w K mg base "compile_thread" (l + 2) p_compile_thread sp_comp := by
  have hc := W.cl
  have n1 := W.nT
  have n2 := W.nP
  have n3 := W.nR
  refine D.ok sc_compile_thread (fun vs H Q E h => ?_) (fun f cdv A outer s H vs Q E hr h => ?_)
  · obtain ⟨_, _, _, _, _, _, _, _, rfl, _⟩ := h
    rfl
  obtain ⟨th, t, a, v0, v2, ks, e, k, rfl, hth, ht, hset, hk, ho, hks, hz, hd, q⟩ := h
  refine ⟨_, (pss_cons (ps_asg (pv 0) (pg_tup rfl (pgs_cons (pg_name (i := 1) sc_compile_thread.nd rfl (by first | exact Or.inl rfl | exact Or.inr rfl)) (pgs_cons (pg_name (i := 2) sc_compile_thread.nd rfl (by first | exact Or.inl rfl | exact Or.inr rfl)) (pgs_cons (pg_name (i := 1) sc_compile_thread.nd rfl (by first | exact Or.inl rfl | exact Or.inr rfl)) (pgs_cons (pg_name (i := 3) sc_compile_thread.nd rfl (by first | exact Or.inl rfl | exact Or.inr rfl)) pgs_nil)))))) (pss_cons (ps_set (i := 4) sc_compile_thread.nd rfl (by first | exact Or.inl rfl | exact Or.inr rfl) (pe_mkC M_Code (hr.mono (by walk_at "lev")) rfl (pa_cons (pv 2) pa_nil))) (pss_cons (ps_expr (pe_cal G_add_statement (hr.mono (by walk_at "lev")) rfl (pa_cons (pv 4) (pa_cons (pv 3) pa_nil)))) (pss_cons (ps_expr (pe_mtC G_Code_emit (hr.mono (by walk_at "lev")) (pv 4) (pa_cons (pe_tup (pa_cons pe_str pa_nil)) pa_nil))) (pss_one (ps_ret (pe_tup (pa_cons (pe_fld (pv 4) rfl) (pa_cons (pe_fld (pv 4) rfl) pa_nil))))))))), ?_⟩
  try dsimp only [cxOf, Cx.nox]
  repeat' walk_at "st"
  intro o dx no ndx neo
  have nto : t ≠ o := ne_of_none ht no
  have ntd : t ≠ dx := ne_of_none ht ndx
  refine ⟨o, t, dx, ks, rfl, upd_same, by rw [upd_ne nto, upd_ne ntd]; exact ht, nto, fun H1 r hr ca k0 => ⟨rfl, ?_⟩⟩
  have e1 : Ex H H1 := fun b u hb => k0.out _ _ (nin_one (ne_of_none hb no)) (by rw [upd_ne (ne_of_none hb no), upd_ne (ne_of_none hb ndx)]; exact hb)
  have hrn : H r = none := by
    have nro : r ≠ o := ca.rp
    rw [upd_ne nro] at hr
    by_cases z : r = dx
    · rw [z]; exact ndx
    · rw [upd_ne z] at hr
      exact hr
  have hset1 : SetIn H1 a k e := by
    obtain ⟨b, x, q1, q2, q3⟩ := hset
    exact ⟨b, x, e1 _ _ q1, e1 _ _ q2, tm_ex e1 q3⟩
  repeat' walk_at "st"
  refine c_set ca hset1 hk (Nat.le_succ_of_le hd) ho (by rw [List.length_nil]; omega) (fun H2 us2 k2 r2 ca2 => ?_)
  have l2 := paired_len r2
  rw [List.nil_append] at ca2
  have ob2 := ca2.ob
  simp only [cfl] at ob2
  repeat' walk_at "st"
  have ca3 := ca2.ex ke
  have kx := k2.trans ke.kp (M := [r])
  have k3 := ke.kp (M := [r])
  have lz : us2.length ≤ 80001 := by
    rw [← l2]
    unfold setRows
    rw [List.length_append, List.length_singleton]
    omega
  refine c_emit ca3 (by omega) (fun H4 k4 ca4 => ?_)
  have ob4 := ca4.ob
  simp only [cfl] at ob4
  have re : IRow.In H4 (.op "end" []) (.ref p) := ⟨p, rfl, k4.tup _ _ hn⟩
  repeat' walk_at "st"
  have kk := (kx.trans k4).trans ke.kp
  have ex : Ex H Hn := fun b u hb => kk.out _ _ (nin_one (ne_of_none hb hrn)) (e1 _ _ hb)
  refine q Hn p r _ ex hrn hn (ke _ _ ca4.rw) (RowsIn.kp ke.kp (M := []) (paired_app (RowsIn.one re) (RowsIn.kp (k3.trans k4) r2)))
abbrev s__law_expr : Stmt := topS 49
theorem sc__law_expr : FnScope ["state", "cells", "deep", "kind", "operators", "first"] ["state", "cells", "deep"] (defScope s__law_expr) := ⟨rfl, rfl, rfl, by decide +kernel, rfl, by decide +kernel, by decide +kernel⟩
abbrev p__law_expr : List Str := ["state", "cells", "deep"]
local macro_rules | `(tactic| walk_at "tm") => `(tactic| first
  | assumption
  | (refine tm_ex (by assumption) ?_; walk_at "tm")
  | (refine tm_kp (by assumption) ?_; walk_at "tm"))
def sp_gen (d : Nat) : Sp := fun vs H Q _ => ∃ (st c : Addr) (n : Int) (k : Nat), vs = [.ref st, .int n, .int (k : Nat)] ∧ k < d ∧ StOk st c H ∧ 1 ≤ n ∧ n ≤ 6 ∧ ∀ (t : Tm) (v : V) (H' : Hp), t.In H' v → t.ok n → t.deep ≤ k + 1 → Kp [st, c] H H' → StOk st c H' → Q v H'
theorem c_gen {d : Nat} {st c : Addr} {n j : Int} {k : Nat} {H : Hp} {Q : VK} {E : XK} (e : j = k) (h1 : StOk st c H) (h2 : k < d) (h3 : 1 ≤ n ∧ n ≤ 6) (q : ∀ (t : Tm) (v : V) (H' : Hp), t.In H' v → t.ok n → t.deep ≤ k + 1 → Kp [st, c] H H' → StOk st c H' → Q v H') : sp_gen d [.ref st, .int n, .int j] H Q E := by
  subst e
  exact ⟨st, c, n, k, rfl, h2, h1, h3.1, h3.2, q⟩
theorem op_pick {j : Nat} {v : V} (h : (opStrs.map V.str)[j]? = some v) : ∃ o : Op, v = .str o.str := by
  obtain ⟨z, hz, rfl⟩ := List.mem_map.mp (List.mem_of_getElem? h)
  simp only [opStrs, List.mem_cons, List.not_mem_nil, or_false] at hz
  rcases hz with rfl | rfl | rfl | rfl | rfl | rfl | rfl | rfl | rfl | rfl | rfl
  · exact ⟨.add, rfl⟩
  · exact ⟨.sub, rfl⟩
  · exact ⟨.mul, rfl⟩
  · exact ⟨.div, rfl⟩
  · exact ⟨.mod, rfl⟩
  · exact ⟨.and, rfl⟩
  · exact ⟨.or, rfl⟩
  · exact ⟨.eq, rfl⟩
  · exact ⟨.ne, rfl⟩
  · exact ⟨.lt, rfl⟩
  · exact ⟨.le, rfl⟩
theorem ok_gen (T : Glo K w mg) (D : Dn K mg "_law_expr" s__law_expr p__law_expr) (G__law_draw : Cal P w K mg base "_law_draw" 1 p__law_draw sp_draw) (G__law_pick : Cal P w K mg base "_law_pick" 2 p__law_pick (sp_pick K)) {d l : Nat} (hl : 2 ≤ l)
    (G__law_expr : Cal P w K mg base "_law_expr" l p__law_expr (sp_gen d)) : Cal P w K mg base "_law_expr" (l + 1) p__law_expr (sp_gen (d + 1)) := by
  refine D.ok sc__law_expr (fun vs H Q E h => ?_) (fun f cdv A outer s H vs Q E hr h => ?_)
  · obtain ⟨_, _, _, _, rfl, _⟩ := h
    rfl
  obtain ⟨st, c, n, k, rfl, kd, so, nn1, nn6, q⟩ := h
  refine ⟨_, (pss_cons (ps_set (i := 3) sc__law_expr.nd rfl (by first | exact Or.inl rfl | exact Or.inr rfl) (pe_cal G__law_draw (hr.mono (by walk_at "lev")) rfl (pa_cons (pv 0) (pa_cons pe_int pa_nil)))) (pss_cons (ps_if (PW.pt (pw_or (pt_cmpR (op_eqA (hu64 hr)) (pv 2) pe_int (nomark _)) (pw_or1 (pt_cmpR op_lt (pv 3) pe_int (nomark _))))) (pss_cons (ps_if (PW.pt (pw_and (pt_cmpR (op_eqA (hu64 hr)) (pe_op op_mod (pv 3) pe_int) pe_int (nomark _)) (pw_and1 (pt_cmpR op_gt (pv 1) pe_int (nomark _))))) (pss_one (ps_ret (pe_tup (pa_cons pe_str (pa_cons (pe_cal G__law_draw (hr.mono (by walk_at "lev")) rfl (pa_cons (pv 0) (pa_cons (pv 1) pa_nil))) pa_nil))))) pss_nil) (pss_one (ps_ret (pe_tup (pa_cons pe_str (pa_cons (pe_cal G__law_pick (hr.mono (by walk_at "lev")) rfl (pa_cons (pv 0) (pa_cons (pe_lst (pa_cons pe_int (pa_cons pe_int (pa_cons pe_int (pa_cons pe_int (pa_cons (pe_cal G__law_draw (hr.mono (by walk_at "lev")) rfl (pa_cons (pv 0) (pa_cons pe_int pa_nil))) (pa_cons (pe_cal G__law_draw (hr.mono (by walk_at "lev")) rfl (pa_cons (pv 0) (pa_cons pe_int pa_nil))) pa_nil))))))) pa_nil))) pa_nil)))))) pss_nil) (pss_cons (ps_if (pt_cmpR (op_eqA (hu64 hr)) (pv 3) pe_int (nomark _)) (pss_one (ps_ret (pe_tup (pa_cons (pe_cal G__law_pick (hr.mono (by walk_at "lev")) rfl (pa_cons (pv 0) (pa_cons (pe_lst (pa_cons pe_str (pa_cons pe_str pa_nil))) pa_nil))) (pa_cons (pe_cal G__law_expr (hr.mono (by walk_at "lev")) rfl (pa_cons (pv 0) (pa_cons (pv 1) (pa_cons (pe_op op_sub (pv 2) pe_int) pa_nil)))) pa_nil))))) pss_nil) (pss_cons (ps_if (PW.pt (pw_and (pt_cmpR (op_eqA (hu64 hr)) (pv 3) pe_int (nomark _)) (pw_and1 (pt_cmpR op_gt (pv 1) pe_int (nomark _))))) (pss_one (ps_ret (pe_tup (pa_cons pe_str (pa_cons pe_int (pa_cons (pe_op op_sub (pv 1) pe_int) (pa_cons (pe_cal G__law_expr (hr.mono (by walk_at "lev")) rfl (pa_cons (pv 0) (pa_cons (pv 1) (pa_cons (pe_op op_sub (pv 2) pe_int) pa_nil)))) pa_nil))))))) pss_nil) (pss_cons (ps_set (i := 4) sc__law_expr.nd rfl (by first | exact Or.inl rfl | exact Or.inr rfl) (pe_lst (pa_cons pe_str (pa_cons pe_str (pa_cons pe_str (pa_cons pe_str (pa_cons pe_str (pa_cons pe_str (pa_cons pe_str (pa_cons pe_str (pa_cons pe_str (pa_cons pe_str (pa_cons pe_str pa_nil))))))))))))) (pss_cons (ps_set (i := 5) sc__law_expr.nd rfl (by first | exact Or.inl rfl | exact Or.inr rfl) (pe_cal G__law_expr (hr.mono (by walk_at "lev")) rfl (pa_cons (pv 0) (pa_cons (pv 1) (pa_cons (pe_op op_sub (pv 2) pe_int) pa_nil))))) (pss_one (ps_ret (pe_tup (pa_cons (pe_cal G__law_pick (hr.mono (by walk_at "lev")) rfl (pa_cons (pv 0) (pa_cons (pv 4) pa_nil))) (pa_cons (pv 5) (pa_cons (pe_cal G__law_expr (hr.mono (by walk_at "lev")) rfl (pa_cons (pv 0) (pa_cons (pv 1) (pa_cons (pe_op op_sub (pv 2) pe_int) pa_nil)))) pa_nil)))))))))))), ?_⟩
  try dsimp only [cxOf, Cx.nox]
  repeat' walk_at "st"
  case refine_2.refine_1.refine_1 => exact q (.cell dn) _ _ ⟨_, rfl, hn⟩ ⟨n0, n1⟩ (by simp only [Tm.deep]; omega) (by walk_at "kp") (by walk_at "st_ok")
  case refine_2.refine_2.refine_1.refine_1 => exact q (.cell dn) _ _ ⟨_, rfl, hn⟩ ⟨n0, n1⟩ (by simp only [Tm.deep]; omega) (by walk_at "kp") (by walk_at "st_ok")
  case refine_2.refine_1.refine_2 =>
    obtain ⟨z, rfl, z0, z1⟩ : ∃ z : Int, v = .int z ∧ 0 ≤ z ∧ z < 65536 := by
      rcases j with _ | _ | _ | _ | _ | _ | j <;> cases ej <;> exact ⟨_, rfl, by omega, by omega⟩
    exact q (.num z) _ _ ⟨_, rfl, hn⟩ ⟨z0, z1⟩ (by simp only [Tm.deep]; omega) (by walk_at "kp") (by walk_at "st_ok")
  case refine_2.refine_2.refine_1.refine_2 =>
    obtain ⟨z, rfl, z0, z1⟩ : ∃ z : Int, v = .int z ∧ 0 ≤ z ∧ z < 65536 := by
      rcases j with _ | _ | _ | _ | _ | _ | j <;> cases ej <;> exact ⟨_, rfl, by omega, by omega⟩
    exact q (.num z) _ _ ⟨_, rfl, hn⟩ ⟨z0, z1⟩ (by simp only [Tm.deep]; omega) (by walk_at "kp") (by walk_at "st_ok")
  all_goals obtain ⟨k', rfl⟩ : ∃ k' : Nat, k = k' + 1 := ⟨k - 1, by omega⟩
  case refine_2.refine_2.refine_2.refine_1 =>
    refine c_gen (k := k') (by omega) so (by omega) ⟨nn1, nn6⟩ (fun t x H2 iv ok td ke2 so2 => ?_)
    have hv := List.mem_of_getElem? ej
    simp only [List.mem_cons, List.not_mem_nil, or_false] at hv
    repeat' walk_at "st"
    rcases hv with rfl | rfl
    · exact q (.neg t) _ _ ⟨_, _, rfl, hn, by walk_at "tm"⟩ ok (by simp only [Tm.deep]; omega) (by walk_at "kp") (by walk_at "st_ok")
    · exact q (.not t) _ _ ⟨_, _, rfl, hn, by walk_at "tm"⟩ ok (by simp only [Tm.deep]; omega) (by walk_at "kp") (by walk_at "st_ok")
  case refine_2.refine_2.refine_2.refine_2.refine_1.refine_1 =>
    refine c_gen (k := k') (by omega) so (by omega) ⟨nn1, nn6⟩ (fun t x H2 iv ok td ke2 so2 => ?_)
    repeat' walk_at "st"
    exact q (.at 1 (n - 1) t) _ _ ⟨_, _, rfl, hn, by walk_at "tm"⟩ ⟨by omega, by omega, by omega, ok⟩ (by simp only [Tm.deep]; omega) (by walk_at "kp") (by walk_at "st_ok")
  all_goals
    have hops : Hn p = some (.lst (opStrs.map V.str)) := hn
    have npp : p ∉ [st, c] := st_fresh (by assumption) hp
    refine c_gen (k := k') (by omega) (st_ex ke so) (by omega) ⟨nn1, nn6⟩ (fun t x H2 iv ok td ke2 so2 => ?_)
    repeat' walk_at "st"
    obtain ⟨op, rfl⟩ := op_pick ej
    refine c_gen (k := k') (by omega) (by assumption) (by omega) ⟨nn1, nn6⟩ (fun t2 x2 H4 iv2 ok2 td2 ke4 so4 => ?_)
    repeat' walk_at "st"
    exact q (.bin op t t2) _ _ ⟨_, _, _, rfl, by assumption, by walk_at "tm", by walk_at "tm"⟩ ⟨ok, ok2⟩ (by simp only [Tm.deep]; omega) (by walk_at "kp") (by walk_at "st_ok")
theorem gen_all (T : Glo K w mg) (D : Dn K mg "_law_expr" s__law_expr p__law_expr) (G__law_draw : Cal P w K mg base "_law_draw" 1 p__law_draw sp_draw) (G__law_pick : Cal P w K mg base "_law_pick" 2 p__law_pick (sp_pick K)) : ∀ d, Cal P w K mg base "_law_expr" (d + 2) p__law_expr (sp_gen d)
  | 0 => by
    refine D.ok sc__law_expr (fun vs H Q E h => ?_) (fun f cdv A outer s H vs Q E hr h => ?_)
    · obtain ⟨_, _, _, _, rfl, _⟩ := h
      rfl
    · obtain ⟨_, _, _, _, _, h, _⟩ := h
      exact absurd h (Nat.not_lt_zero _)
  | d + 1 => ok_gen T D G__law_draw G__law_pick (by omega) (gen_all T D G__law_draw G__law_pick d)
abbrev s__law_moved : Stmt := topS 52
theorem sc__law_moved : FnScope ["e", "part"] ["e"] (defScope s__law_moved) := ⟨rfl, rfl, rfl, by decide +kernel, rfl, by decide +kernel, by decide +kernel⟩
abbrev p__law_moved : List Str := ["e"]
theorem q_catT {K : PySem.W.Frag} {H : Hp} {Q : VK} {a b : Addr} {x : V} {xs ys : List V} (h1 : H a = some (.tup (x :: xs))) (h2 : H b = some (.tup ys)) (hz : xs.length + 1 + ys.length ≤ 100000) (q : ∀ p Hn, Ex H Hn → Hn p = some (.tup (x :: xs ++ ys)) → Q (.ref p) Hn) : rAddA K (.ref a) (.ref b) H Q := by
  refine .inr (.inr (.inr ⟨a, b, x :: xs, ys, rfl, rfl, sqt h1, sqt h2, (fun z => by cases z), sl1000 (by rw [List.length_cons]; exact hz), fun e => ?_, fun _ p hp => q p _ (Ex.mk hp rfl) upd_same⟩))
  subst e
  refine q a H (Ex.refl H) ?_
  rw [List.append_nil]
  exact h1
theorem q_iTs {K : PySem.W.Frag} {H : Hp} {a : Addr} {xs : List V} {B : Addr → Prop} (h : H a = some (.tup xs)) (q : B a) : ∃ b, V.ref a = .ref b ∧ (∃ xs, SqT K H b xs) ∧ B b := ⟨a, rfl, ⟨xs, sqt h⟩, q⟩
theorem lc_tup {K : PySem.W.Frag} {a : Addr} {xs : List V} {g : TG} {tt : TT} {te : TE} {vs : List Nat} {σ : St} {H1 : Hp} {D : Addr} {Qd : Hp → Prop} (Pv : Nat → Hp → Prop) (h0 : Pv 0 (upd H1 D (.lst []))) (hl : ∀ i H, i ≤ xs.length → Pv i H → SqT K H a xs)
    (hs : ∀ i x H, xs[i]? = some x → Pv i H → g x (wipe σ vs) H fun σ2 H2 => wipe σ2 vs = wipe σ vs ∧ tt σ2 H2 fun b H3 =>
      if b = true then te σ2 H3 fun y H4 => ∃ acc, H4 D = some (.lst acc) ∧ acc.length < sizeLine ∧ Pv (i + 1) (upd H4 D (.lst (acc ++ [y]))) else Pv (i + 1) H3) (hd : ∀ H, Pv xs.length H → Qd H) :
    ∃ W : Nat → Nat → Hp → Prop, (∃ m, W 0 m (upd H1 D (.lst []))) ∧ ∀ i m H, W i m H →
      ((Itt K a).stop i H ∧ Qd H) ∨ ((Itt K a).go i H ∧ ∃ Nx : Hp → Prop, (∀ H', Nx H' → ∃ m', m' < m ∧ W (i + 1) m' H') ∧ ∀ x H', (Itt K a).yld i H x H' → g x (wipe σ vs) H' fun σ2 H2 => wipe σ2 vs = wipe σ vs ∧ tt σ2 H2 fun b H3 =>
        if b = true then te σ2 H3 fun y H4 => ∃ acc, H4 D = some (.lst acc) ∧ acc.length < sizeLine ∧ Nx (upd H4 D (.lst (acc ++ [y]))) else Nx H3) :=
  lc_it walk_tup Pv h0 hl (fun i x H H' hi p y => by
    obtain ⟨e, hx⟩ := y
    subst e
    exact hs i x _ hx p) hd
def Tm.mv : Tm → Tm
  | .num n => .num n
  | .cell k => .cell (3 + k)
  | .at f s e => .at (3 + f) s e.mv
  | .neg e => .neg e.mv
  | .not e => .not e.mv
  | .bin o a b => .bin o a.mv b.mv
/-- what stands behind the first word of a term that has parts only -/
def PartsIn (H : Hp) (es : List Tm) (vs : List V) : Prop := Paired (fun e v => Tm.In H e v) es vs
def sp_moved (d : Nat) : Sp := fun vs H Q _ => ∃ (e : Tm) (v : V), vs = [v] ∧ e.In H v ∧ e.deep ≤ d ∧ ∀ H' u, Ex H H' → e.mv.In H' u → Q u H'
theorem c_moved {d : Nat} {e : Tm} {v : V} {H : Hp} {Q : VK} {E : XK} (h1 : e.In H v) (h2 : e.deep ≤ d) (q : ∀ H' u, Ex H H' → e.mv.In H' u → Q u H') : sp_moved d [v] H Q E := ⟨e, v, rfl, h1, h2, q⟩
theorem paired_snoc {α β : Type} {F : α → β → Prop} {x : α} {y : β} (h : F x y) : ∀ {xs : List α} {ys : List β}, Paired F xs ys → Paired F (xs ++ [x]) (ys ++ [y])
  | _, _, .nil => .cons h .nil
  | _, _, .cons a t => .cons a (paired_snoc h t)
theorem parts_at {H : Hp} : ∀ {es : List Tm} {vs : List V} {i : Nat} {v : V}, PartsIn H es vs → vs[i]? = some v → ∃ e, es[i]? = some e ∧ e.In H v
  | _, _, _, _, .nil, h => by simp at h
  | _, _, 0, _, .cons a t, h => by
    simp at h
    subst h
    exact ⟨_, rfl, a⟩
  | _, _, i + 1, _, .cons a t, h => by
    rw [List.getElem?_cons_succ] at h
    rw [List.getElem?_cons_succ]
    exact parts_at t h
theorem parts_ex {H H' : Hp} {es : List Tm} {vs : List V} (k : Ex H H') (h : PartsIn H es vs) : PartsIn H' es vs := paired_imp (fun _ _ a => tm_ex k a) h
theorem lc_moved {p p0 L : Addr} {es : List Tm} {vs : List V} {H : Hp} {Qd : Hp → Prop} {d : Nat} (hp : H p = some (.tup vs)) (hv : PartsIn H es vs) (hd : ∀ e ∈ es, e.deep ≤ d) (hL : H L = none) (hz : vs.length ≤ 1000) (q : ∀ H' us, Ex H H' → H' L = some (.lst us) → PartsIn H' (es.map Tm.mv) us → Qd H') :
    ∃ W : Nat → Nat → Hp → Prop, (∃ m, W 0 m (upd H L (.lst []))) ∧ ∀ i m H, W i m H →
      ((Itt K p).stop i H ∧ Qd H) ∨ ((Itt K p).go i H ∧ ∃ Nx : Hp → Prop, (∀ H', Nx H' → ∃ m', m' < m ∧ W (i + 1) m' H') ∧ ∀ x H', (Itt K p).yld i H x H' → gName 1 x (wipe (start ["e", "part"] [V.ref p0]) (List.map (fun x => x.snd) [(("part" : Str), 1)])) H' fun σ2 H2 =>
        wipe σ2 (List.map (fun x => x.snd) [(("part" : Str), 1)]) = wipe (start ["e", "part"] [V.ref p0]) (List.map (fun x => x.snd) [(("part" : Str), 1)]) ∧ tYes σ2 H2 fun b H3 =>
        if b = true then tCall (sp_moved d) [] E0 (tCons (tVar 1) tNil) σ2 H3 fun y H4 => ∃ acc, H4 L = some (.lst acc) ∧ acc.length < sizeLine ∧ Nx (upd H4 L (.lst (acc ++ [y]))) else Nx H3) := by
  have lev := paired_len hv
  refine lc_tup (xs := vs) (fun i H' => Ex H H' ∧ ∃ us, us.length = i ∧ H' L = some (.lst us) ∧ PartsIn H' ((es.take i).map Tm.mv) us) ?_ ?_ ?_ ?_
  · exact ⟨ex_updF (Ex.refl _) hL, [], rfl, upd_same, .nil⟩
  · rintro i H' _ ⟨e1, _⟩
    exact sqt (e1 _ _ hp)
  · rintro i v H' hi ⟨e1, us, lu, hu, du⟩
    obtain ⟨e, he, hev⟩ := parts_at hv hi
    refine ⟨rfl, ?_⟩
    repeat' walk_at "st"
    refine c_moved (tm_ex e1 hev) (hd e (List.mem_of_getElem? he)) (fun H2 u e2 hu2 => ?_)
    have hli : i < vs.length := (List.getElem?_eq_some_iff.mp hi).1
    have notup : ∀ {b : Addr} {xs : List V}, H2 b = some (.tup xs) → (upd H2 L (.lst (us ++ [u]))) b = some (.tup xs) := fun {b xs} hb => by
      rw [upd_ne (fun z => by rw [z, e2 _ _ hu] at hb; cases hb)]
      exact hb
    refine ⟨us, e2 _ _ hu, sl1000' (by omega), ex_updF (e1.trans e2) hL, us ++ [u], by simp [lu], upd_same, ?_⟩
    rw [List.take_add_one, he, List.map_append]
    exact paired_snoc (hu2.up fun b xs => notup) (paired_imp (fun _ _ a => a.up fun b xs => notup) (parts_ex e2 du))
  · rintro H' ⟨e1, us, lu, hu, du⟩
    rw [← lev, List.take_length] at du
    exact q H' us e1 hu du
theorem ok_moved (T : Glo K w mg) (D : Dn K mg "_law_moved" s__law_moved p__law_moved) {d l : Nat} (G__law_moved : Cal P w K mg base "_law_moved" l p__law_moved (sp_moved d)) : Cal P w K mg base "_law_moved" (l + 1) p__law_moved (sp_moved (d + 1)) := by
  refine D.ok sc__law_moved (fun vs H Q E h => ?_) (fun f cdv A outer s H vs Q E hr h => ?_)
  · obtain ⟨_, _, rfl, _⟩ := h
    rfl
  obtain ⟨e, v, rfl, hin, hd, q⟩ := h
  refine ⟨_, (pss_cons (ps_if (pt_cmpR (op_eqA (hu64 hr)) (pe_ix ix_seq (pv 0) pe_int (fun _ _ => rfl)) pe_str (nomark _)) (pss_one (ps_ret (pv 0))) pss_nil) (pss_cons (ps_if (pt_cmpR (op_eqA (hu64 hr)) (pe_ix ix_seq (pv 0) pe_int (fun _ _ => rfl)) pe_str (nomark _)) (pss_one (ps_ret (pe_tup (pa_cons pe_str (pa_cons (pe_op op_addA pe_int (pe_ix ix_seq (pv 0) pe_int (fun _ _ => rfl))) pa_nil))))) pss_nil) (pss_cons (ps_if (pt_cmpR (op_eqA (hu64 hr)) (pe_ix ix_seq (pv 0) pe_int (fun _ _ => rfl)) pe_str (nomark _)) (pss_one (ps_ret (pe_tup (pa_cons pe_str (pa_cons (pe_op op_addA pe_int (pe_ix ix_seq (pv 0) pe_int (fun _ _ => rfl))) (pa_cons (pe_ix ix_seq (pv 0) pe_int (fun _ _ => rfl)) (pa_cons (pe_cal G__law_moved (hr.mono (by walk_at "lev")) rfl (pa_cons (pe_ix ix_seq (pv 0) pe_int (fun _ _ => rfl)) pa_nil)) pa_nil))))))) pss_nil) (pss_one (ps_ret (pe_op op_addA (pe_tup (pa_cons (pe_ix ix_seq (pv 0) pe_int (fun _ _ => rfl)) pa_nil)) (pe_callTy call_tupA rfl T.n_tuple (by decide +kernel) (pa_cons (pe_lc (own := [("part", 1)]) (tt := tYes) rfl sc__law_moved.nd (pi_tup (pe_slice sl_any (pv 0) (po_some pe_int) po_none)) (blkOk_by (N := ["e", "part"]) (sc := defScope s__law_moved) (by decide +kernel)) (fun _ _ _ _ _ => (pg_name (i := 1) sc__law_moved.nd rfl (by first | exact Or.inl rfl | exact Or.inr rfl))) (fun _ _ _ _ _ => pts_nil) (fun _ _ _ _ _ => (pe_cal G__law_moved (hr.mono (by walk_at "lev")) rfl (pa_cons (pv 1) pa_nil)))) pa_nil)))))))), ?_⟩
  try dsimp only [cxOf, Cx.nox]
  cases e
  case num z =>
    obtain ⟨p0, rfl, hp0⟩ := hin
    repeat' walk_at "st"
    exact q _ _ (Ex.refl _) ⟨_, rfl, hp0⟩
  case cell z =>
    obtain ⟨p0, rfl, hp0⟩ := hin
    repeat' walk_at "st"
    exact q _ _ ke ⟨_, rfl, hn⟩
  case «at» fi si e =>
    obtain ⟨p0, x, rfl, hp0, hx⟩ := hin
    simp only [Tm.deep] at hd
    repeat' walk_at "st"
    refine c_moved hx (by omega) (fun H1 u e1 hu => ?_)
    repeat' walk_at "st"
    exact q _ _ (e1.trans ke) ⟨_, _, rfl, hn, by walk_at "tm"⟩
  case neg e =>
    obtain ⟨p0, x, rfl, hp0, hx⟩ := hin
    simp only [Tm.deep] at hd
    repeat' walk_at "st"
    intro L hL
    refine lc_moved (es := [e]) hn (.cons (by walk_at "tm") .nil) (fun e' he => by rw [List.mem_singleton.mp he]; omega) hL (by show 1 ≤ 1000; decide) (fun H2 us e2 hus du => ?_)
    repeat' walk_at "st"
    refine q_tupA (sql hus) (fun l2 H3 hl2 e3 h3 => ?_)
    refine q_catT (x := .str "neg") (xs := []) (by walk_at "lift") h3 (by have := paired_len du; simp at this; simp; omega) (fun l4 H4 e4 h4 => ?_)
    cases du with
    | cons d1 d2 =>
      cases d2
      exact q _ _ (by walk_at "ex") ⟨_, _, rfl, h4, tm_ex (e3.trans e4) d1⟩
  case not e =>
    obtain ⟨p0, x, rfl, hp0, hx⟩ := hin
    simp only [Tm.deep] at hd
    repeat' walk_at "st"
    intro L hL
    refine lc_moved (es := [e]) hn (.cons (by walk_at "tm") .nil) (fun e' he => by rw [List.mem_singleton.mp he]; omega) hL (by show 1 ≤ 1000; decide) (fun H2 us e2 hus du => ?_)
    repeat' walk_at "st"
    refine q_tupA (sql hus) (fun l2 H3 hl2 e3 h3 => ?_)
    refine q_catT (x := .str "not") (xs := []) (by walk_at "lift") h3 (by have := paired_len du; simp at this; simp; omega) (fun l4 H4 e4 h4 => ?_)
    cases du with
    | cons d1 d2 =>
      cases d2
      exact q _ _ (by walk_at "ex") ⟨_, _, rfl, h4, tm_ex (e3.trans e4) d1⟩
  case bin op e1 e2 =>
    obtain ⟨p0, x, y, rfl, hp0, hx, hy⟩ := hin
    simp only [Tm.deep] at hd
    repeat' walk_at "st"
    intro L hL
    refine lc_moved (es := [e1, e2]) hn (.cons (by walk_at "tm") (.cons (by walk_at "tm") .nil)) (fun e' he => ?_) hL (by show 2 ≤ 1000; decide) (fun H2 us k2 hus du => ?_)
    · rcases List.mem_cons.mp he with rfl | he
      · omega
      · rw [List.mem_singleton.mp he]
        omega
    repeat' walk_at "st"
    refine q_tupA (sql hus) (fun l2 H3 hl2 k3 h3 => ?_)
    refine q_catT (x := .str op.str) (xs := []) (by walk_at "lift") h3 (by have := paired_len du; simp at this; simp; omega) (fun l4 H4 k4 h4 => ?_)
    cases du with
    | cons d1 d2 =>
      cases d2 with
      | cons d3 d4 =>
        cases d4
        exact q _ _ (by walk_at "ex") ⟨_, _, _, rfl, h4, tm_ex (k3.trans k4) d1, tm_ex (k3.trans k4) d3⟩
theorem moved_all (T : Glo K w mg) (D : Dn K mg "_law_moved" s__law_moved p__law_moved) : ∀ d, Cal P w K mg base "_law_moved" (d + 1) p__law_moved (sp_moved d)
  | 0 => by
    refine D.ok sc__law_moved (fun vs H Q E h => ?_) (fun f cdv A outer s H vs Q E hr h => ?_)
    · obtain ⟨_, _, rfl, _⟩ := h
      rfl
    · obtain ⟨e, _, _, _, h, _⟩ := h
      exact absurd (e.deep_pos) (by omega)
  | d + 1 => ok_moved T D (moved_all T D d)
theorem mv_deep : ∀ e : Tm, e.mv.deep = e.deep
  | .num _ => rfl
  | .cell _ => rfl
  | .at _ _ e => congrArg (· + 1) (mv_deep e)
  | .neg e => congrArg (· + 1) (mv_deep e)
  | .not e => congrArg (· + 1) (mv_deep e)
  | .bin _ a b => by simp only [Tm.mv, Tm.deep, mv_deep a, mv_deep b]
/-- moved, a term is over the takes 3, 4 .. -/
theorem mv_over {n : Nat} : ∀ {e : Tm}, e.ok n → e.mv.over ((List.range n).map fun (k : Nat) => 3 + (k : Int))
  | .num _, _ => trivial
  | .cell k, h => List.mem_map.mpr ⟨k.toNat, List.mem_range.mpr (by have := h.1; have := h.2; omega), by have := h.1; show 3 + (k.toNat : Int) = 3 + k; omega⟩
  | .at f s e, h => ⟨List.mem_map.mpr ⟨f.toNat, List.mem_range.mpr (by have := h.1; have := h.2.1; have := h.2.2.1; omega), by have := h.1; show 3 + (f.toNat : Int) = 3 + f; omega⟩, mv_over h.2.2.2⟩
  | .neg e, h => mv_over (e := e) h
  | .not e, h => mv_over (e := e) h
  | .bin _ a b, h => ⟨mv_over h.1, mv_over h.2⟩
theorem code_le (ks : List Int) : ∀ e : Tm, (e.code ks).length + 1 ≤ 2 ^ e.deep
  | .num _ => by show 1 + 1 ≤ 2 ^ 1; decide
  | .cell _ => by show 1 + 1 ≤ 2 ^ 1; decide
  | .at f s e => by
    have := code_le ks e
    simp only [Tm.code, Tm.deep, List.length_append, List.length_singleton, Nat.pow_succ]
    have := Nat.one_le_two_pow (n := e.deep)
    omega
  | .neg e => by
    have := code_le ks e
    simp only [Tm.code, Tm.deep, List.length_append, List.length_singleton, Nat.pow_succ]
    have := Nat.one_le_two_pow (n := e.deep)
    omega
  | .not e => by
    have := code_le ks e
    simp only [Tm.code, Tm.deep, List.length_append, List.length_singleton, Nat.pow_succ]
    have := Nat.one_le_two_pow (n := e.deep)
    omega
  | .bin _ a b => by
    have h1 := code_le ks a
    have h2 := code_le ks b
    have h3 : 2 ^ a.deep ≤ 2 ^ max a.deep b.deep := Nat.pow_le_pow_right (by decide) (Nat.le_max_left ..)
    have h4 : 2 ^ b.deep ≤ 2 ^ max a.deep b.deep := Nat.pow_le_pow_right (by decide) (Nat.le_max_right ..)
    simp only [Tm.code, Tm.deep, List.length_append, List.length_singleton, Nat.pow_succ]
    omega
abbrev s__law_value : Stmt := topS 51
theorem sc__law_value : FnScope ["e", "cells", "a", "b", "index"] ["e", "cells"] (defScope s__law_value) := ⟨rfl, rfl, rfl, by decide +kernel, rfl, by decide +kernel, by decide +kernel⟩
abbrev p__law_value : List Str := ["e", "cells"]
def sp_val (K : PySem.W.Frag) (d : Nat) : Sp := fun vs H Q _ => ∃ (e : Tm) (v : V) (a : Addr) (cs : List Int), vs = [v, .ref a] ∧ e.In H v ∧ e.ok cs.length ∧ e.deep ≤ d ∧ H a = some (.lst (cs.map V.int)) ∧ Words cs ∧ ∀ H', Ex H H' → Q (optV (ev cs e)) H'
theorem c_val {d : Nat} {e : Tm} {v : V} {a : Addr} {cs : List Int} {H : Hp} {Q : VK} {E : XK} (h1 : e.In H v) (h2 : e.ok cs.length) (h3 : e.deep ≤ d) (h4 : H a = some (.lst (cs.map V.int))) (h5 : Words cs) (q : ∀ H', Ex H H' → Q (optV (ev cs e)) H') :
    sp_val K d [v, .ref a] H Q E := ⟨e, v, a, cs, rfl, h1, h2, h3, h4, h5, q⟩
theorem word_at {cs : List Int} {k : Int} (h0 : 0 ≤ k) (h1 : k < cs.length) : atI (cs.map V.int) k = some (.int (cs.getD k.toNat 0)) := by
  obtain ⟨j, rfl⟩ : ∃ j : Nat, k = j := ⟨k.toNat, by omega⟩
  refine atI_nat ?_
  have hj : j < cs.length := by omega
  rw [List.getElem?_map, Int.toNat_natCast, List.getD_eq_getElem?_getD, List.getElem?_eq_getElem hj]
  rfl
theorem nn_in (o : Op) : inV (.str o.str) [.str "neg", .str "not"] = false := by cases o <;> decide +kernel
theorem ok_val (T : Glo K w mg) (D : Dn K mg "_law_value" s__law_value p__law_value) {d l : Nat} (hl : 1 ≤ l) (G__law_two : Cal P w K mg base "_law_two" 1 p__law_two sp_two) (G__law_value : Cal P w K mg base "_law_value" l p__law_value (sp_val K d)) : Cal P w K mg base "_law_value" (l + 1) p__law_value (sp_val K (d + 1)) := by
  refine D.ok sc__law_value (fun vs H Q E h => ?_) (fun f cdv A outer s H vs Q E hr h => ?_)
  · obtain ⟨_, _, _, _, rfl, _⟩ := h
    rfl
  obtain ⟨e, v, a, cs, rfl, hin, hok, hd, ha, hw, q⟩ := h
  refine ⟨_, (pss_cons (ps_if (pt_cmpR (op_eqA (hu64 hr)) (pe_ix ix_seq (pv 0) pe_int (fun _ _ => rfl)) pe_str (nomark _)) (pss_one (ps_ret (pe_ix ix_seq (pv 0) pe_int (fun _ _ => rfl)))) pss_nil) (pss_cons (ps_if (pt_cmpR (op_eqA (hu64 hr)) (pe_ix ix_seq (pv 0) pe_int (fun _ _ => rfl)) pe_str (nomark _)) (pss_one (ps_ret (pe_ix ix_seq (pv 1) (pe_ix ix_seq (pv 0) pe_int (fun _ _ => rfl)) (fun _ _ => rfl)))) pss_nil) (pss_cons (ps_if (pt_cmpR (op_eqA (hu64 hr)) (pe_ix ix_seq (pv 0) pe_int (fun _ _ => rfl)) pe_str (nomark _)) (pss_cons (ps_set (i := 4) sc__law_value.nd rfl (by first | exact Or.inl rfl | exact Or.inr rfl) (pe_cal G__law_value (hr.mono (by walk_at "lev")) rfl (pa_cons (pe_ix ix_seq (pv 0) pe_int (fun _ _ => rfl)) (pa_cons (pv 1) pa_nil)))) (pss_one (ps_ret (pe_ifExp (PW.pt (pw_or (pt_cmpR op_isN1 (pv 4) pe_non (nomark _)) (pw_or1 (pt_cmpR op_ge (pv 4) (pe_ix ix_seq (pv 0) pe_int (fun _ _ => rfl)) (nomark _))))) pe_non (pe_ix ix_seq (pv 1) (pe_op op_addA (pe_ix ix_seq (pv 0) pe_int (fun _ _ => rfl)) (pv 4)) (fun _ _ => rfl)))))) pss_nil) (pss_cons (ps_set (i := 2) sc__law_value.nd rfl (by first | exact Or.inl rfl | exact Or.inr rfl) (pe_cal G__law_value (hr.mono (by walk_at "lev")) rfl (pa_cons (pe_ix ix_seq (pv 0) pe_int (fun _ _ => rfl)) (pa_cons (pv 1) pa_nil)))) (pss_cons (ps_if (pt_cmpR op_in_seq (pe_ix ix_seq (pv 0) pe_int (fun _ _ => rfl)) (pe_tup (pa_cons pe_str (pa_cons pe_str pa_nil))) (by rfl)) (pss_cons (ps_if (pt_cmpR op_isN1 (pv 2) pe_non (nomark _)) (pss_one (ps_ret pe_non)) pss_nil) (pss_one (ps_ret (pe_ifExp (pt_cmpR (op_eqA (hu64 hr)) (pe_ix ix_seq (pv 0) pe_int (fun _ _ => rfl)) pe_str (nomark _)) (pe_op op_mod (pe_callTy call_intA rfl T.n_int (by decide +kernel) (pa_cons (pe_op op_sub pe_int (pv 2)) pa_nil)) pe_int) (pe_callTy call_intA rfl T.n_int (by decide +kernel) (pa_cons (pe_cmpR (op_eqA (hu64 hr)) (pv 2) pe_int (nomark _)) pa_nil)))))) pss_nil) (pss_cons (ps_set (i := 3) sc__law_value.nd rfl (by first | exact Or.inl rfl | exact Or.inr rfl) (pe_cal G__law_value (hr.mono (by walk_at "lev")) rfl (pa_cons (pe_ix ix_seq (pv 0) pe_int (fun _ _ => rfl)) (pa_cons (pv 1) pa_nil)))) (pss_one (ps_ret (pe_ifExp (PW.pt (pw_or (pt_cmpR op_isN1 (pv 2) pe_non (nomark _)) (pw_or1 (pt_cmpR op_isN1 (pv 3) pe_non (nomark _))))) pe_non (pe_cal G__law_two (hr.mono (by walk_at "lev")) rfl (pa_cons (pe_ix ix_seq (pv 0) pe_int (fun _ _ => rfl)) (pa_cons (pv 2) (pa_cons (pv 3) pa_nil))))))))))))), ?_⟩
  try dsimp only [cxOf, Cx.nox]
  cases e
  case num z =>
    obtain ⟨p0, rfl, hp0⟩ := hin
    repeat' walk_at "st"
    exact q _ (Ex.refl _)
  case cell z =>
    obtain ⟨p0, rfl, hp0⟩ := hin
    repeat' walk_at "st"
    refine q_ixL (sql ha) (word_at hok.1 hok.2) ?_
    repeat' walk_at "st"
    exact q _ (Ex.refl _)
  case «at» fi si e =>
    obtain ⟨p0, x, rfl, hp0, hx⟩ := hin
    obtain ⟨f0, s0, fs, hok⟩ := hok
    simp only [Tm.deep] at hd
    simp only [ev] at q
    repeat' walk_at "st"
    refine c_val hx hok (by omega) ha hw (fun H1 k1 => ?_)
    have hz : ∀ z, ev cs e = some z → 0 ≤ z ∧ z < 65536 := fun z => ev_w hw hok
    generalize ev cs e = o at q hz ⊢
    cases o with
    | none =>
      simp only [optV] at q ⊢
      repeat' walk_at "st"
      exact q _ k1
    | some z =>
      obtain ⟨z0, z1⟩ := hz z rfl
      simp only [optV] at q ⊢
      repeat' walk_at "st"
      · rw [if_pos (by assumption)] at q
        exact q _ k1
      · rw [if_neg (by assumption)] at q
        first
          | exact q _ k1
          | (refine q_ixL (sql (k1 _ _ ha)) (word_at (by omega) (by omega)) ?_
             exact q _ k1)
  case neg e =>
    obtain ⟨p0, x, rfl, hp0, hx⟩ := hin
    simp only [Tm.deep] at hd
    simp only [ev] at q
    repeat' walk_at "st"
    refine c_val hx hok (by omega) ha hw (fun H1 k1 => ?_)
    generalize ev cs e = o at q ⊢
    cases o with
    | none =>
      simp only [optV] at q ⊢
      repeat' walk_at "st"
      exact q _ (k1.trans ke)
    | some z =>
      simp only [optV] at q ⊢
      repeat' walk_at "st"
      refine cast_q ?_ (q _ (k1.trans ke))
      rw [show (65536 - z) % 65536 = -z % 65536 by omega]
  case not e =>
    obtain ⟨p0, x, rfl, hp0, hx⟩ := hin
    simp only [Tm.deep] at hd
    simp only [ev] at q
    repeat' walk_at "st"
    refine c_val hx hok (by omega) ha hw (fun H1 k1 => ?_)
    generalize ev cs e = o at q ⊢
    cases o with
    | none =>
      simp only [optV] at q ⊢
      repeat' walk_at "st"
      exact q _ (k1.trans ke)
    | some z =>
      simp only [optV] at q ⊢
      repeat' walk_at "st"
      · rw [decide_eq_true (by assumption)] at q
        exact q _ (k1.trans ke)
      · rw [decide_eq_false (by assumption)] at q
        exact q _ (k1.trans ke)
  case bin op e1 e2 =>
    obtain ⟨p0, x, y, rfl, hp0, hx, hy⟩ := hin
    simp only [Tm.deep] at hd
    simp only [ev] at q
    repeat' walk_at "st"
    refine c_val hx hok.1 (by omega) ha hw (fun H1 k1 => ?_)
    have hz1 : ∀ z, ev cs e1 = some z → 0 ≤ z ∧ z < 65536 := fun z => ev_w hw hok.1
    have hz2 : ∀ z, ev cs e2 = some z → 0 ≤ z ∧ z < 65536 := fun z => ev_w hw hok.2
    repeat' walk_at "st"
    refine q_inTN (sqt hn) (show (true && true && !inV (V.str op.str) [.str "neg", .str "not"]) = true by rw [nn_in op]; rfl) ?_
    repeat' walk_at "st"
    have x2 : Ex H Hn := k1.trans ke
    refine c_val (tm_ex x2 hy) hok.2 (by omega) (x2 _ _ ha) hw (fun H2 k2 => ?_)
    have hp2 := k2 _ _ (x2 _ _ hp0)
    generalize ev cs e1 = o1 at q hz1 ⊢
    generalize ev cs e2 = o2 at q hz2 ⊢
    cases o1 with
    | none =>
      simp only [optV] at q ⊢
      repeat' walk_at "st"
      exact q _ (x2.trans k2)
    | some z1 =>
      cases o2 with
      | none =>
        simp only [optV] at q ⊢
        repeat' walk_at "st"
        exact q _ (x2.trans k2)
      | some z2 =>
        simp only [optV] at q ⊢
        repeat' walk_at "st"
        refine c_two (hz1 _ rfl) (hz2 _ rfl) (fun H3 k3 => ?_)
        exact q _ ((x2.trans k2).trans k3)
theorem val_all (T : Glo K w mg) (D : Dn K mg "_law_value" s__law_value p__law_value) (G__law_two : Cal P w K mg base "_law_two" 1 p__law_two sp_two) : ∀ d, Cal P w K mg base "_law_value" (d + 1) p__law_value (sp_val K d)
  | 0 => by
    refine D.ok sc__law_value (fun vs H Q E h => ?_) (fun f cdv A outer s H vs Q E hr h => ?_)
    · obtain ⟨_, _, _, _, rfl, _⟩ := h
      rfl
    · obtain ⟨e, _, _, _, _, _, _, h, _⟩ := h
      exact absurd (e.deep_pos) (by omega)
  | d + 1 => ok_val T D (by omega) G__law_two (val_all T D G__law_two d)
/-! ### what the rows do to a stack and places -/
inductive Exec : IRow → List Int → List Int → Option (List Int × List Int) → Prop
  | push {n : Int} {s pl : List Int} : Exec (.op "push" [n]) s pl (some (n :: s, pl))
  | load {j : Nat} {s pl : List Int} : j < pl.length → Exec (.op "load" [(j : Int)]) s pl (some (pl.getD j 0 :: s, pl))
  | loadx {j i : Nat} {sz : Int} {s pl : List Int} : (i : Int) < sz → j + i < pl.length → Exec (.op "loadx" [(j : Int), sz]) ((i : Int) :: s) pl (some (pl.getD (j + i) 0 :: s, pl))
  | loadxF {j : Nat} {i sz : Int} {s pl : List Int} : sz ≤ i → Exec (.op "loadx" [(j : Int), sz]) (i :: s) pl none
  | neg {a : Int} {s pl : List Int} : Wd16 a → Exec (.op "neg" []) (a :: s) pl (some (-a % 65536 :: s, pl))
  | not {a : Int} {s pl : List Int} : Wd16 a → Exec (.op "not" []) (a :: s) pl (some (b2 (decide (a = 0)) :: s, pl))
  | cal {o : Op} {a b x : Int} {s pl : List Int} : Wd16 a → Wd16 b → calc2 o a b = some x → Exec (.cal o) (b :: a :: s) pl (some (x :: s, pl))
  | calF {o : Op} {a b : Int} {s pl : List Int} : Wd16 a → Wd16 b → calc2 o a b = none → Exec (.cal o) (b :: a :: s) pl none
  | store {j : Nat} {a : Int} {s pl : List Int} : j < pl.length → Exec (.op "store" [(j : Int)]) (a :: s) pl (some (s, pl.set j a))
inductive Runs : List IRow → List Int → List Int → Option (List Int × List Int) → Prop
  | nil {s pl : List Int} : Runs [] s pl (some (s, pl))
  | step {i : IRow} {r : List IRow} {s pl s1 pl1 : List Int} {o : Option (List Int × List Int)} : Exec i s pl (some (s1, pl1)) → Runs r s1 pl1 o → Runs (i :: r) s pl o
  | fault {i : IRow} {r : List IRow} {s pl : List Int} : Exec i s pl none → Runs (i :: r) s pl none
theorem Runs.app {a b : List IRow} {s pl s1 pl1 : List Int} {o : Option (List Int × List Int)} (h : Runs a s pl (some (s1, pl1))) (k : Runs b s1 pl1 o) : Runs (a ++ b) s pl o := by
  generalize e : some (s1, pl1) = x at h
  induction h with
  | nil =>
    cases e
    exact k
  | step x _ ih => exact .step x (ih e)
  | fault _ => cases e
theorem Runs.appF {a b : List IRow} {s pl : List Int} (h : Runs a s pl none) : Runs (a ++ b) s pl none := by
  generalize e : none = x at h
  induction h with
  | nil => cases e
  | step x _ ih => exact .step x (ih e)
  | fault x => exact .fault x
theorem Runs.one {i : IRow} {s pl s1 pl1 : List Int} (h : Exec i s pl (some (s1, pl1))) : Runs [i] s pl (some (s1, pl1)) := .step h .nil
/-- the takes of the law -/
def tks (n : Nat) : List Int := (List.range n).map fun (k : Nat) => 3 + (k : Int)
theorem ixf_cons {x k : Int} {r : List Int} : ixf (x :: r) k = if x = k then 0 else ixf r k + 1 := rfl
theorem ixf_app {xs ys : List Int} {k : Int} : k ∉ xs → ixf (xs ++ ys) k = xs.length + ixf ys k := by
  induction xs with
  | nil => intro _; simp
  | cons x r ih =>
    intro h
    have h1 : ¬ x = k := fun z => h (by rw [z]; exact List.mem_cons_self ..)
    have h2 : k ∉ r := fun z => h (List.mem_cons_of_mem _ z)
    rw [List.cons_append, ixf_cons, if_neg h1, ih h2, List.length_cons]
    omega
theorem ixf_mem {xs ys : List Int} {k : Int} : k ∈ xs → ixf (xs ++ ys) k = ixf xs k := by
  induction xs with
  | nil => intro h; cases h
  | cons x r ih =>
    intro h
    rw [List.cons_append, ixf_cons, ixf_cons]
    by_cases e : x = k
    · rw [if_pos e, if_pos e]
    · rw [if_neg e, if_neg e]
      rcases List.mem_cons.mp h with z | z
      · exact absurd z.symm e
      · rw [ih z]
theorem ixf_tks : ∀ {n k : Nat}, k < n → ixf (tks n) (3 + (k : Int)) = k
  | 0, _, h => by omega
  | n + 1, k, h => by
    have e : tks (n + 1) = tks n ++ [3 + (n : Int)] := by
      unfold tks
      rw [List.range_succ, List.map_append]
      rfl
    rw [e]
    by_cases c : k < n
    · have m : 3 + (k : Int) ∈ tks n := List.mem_map.mpr ⟨k, List.mem_range.mpr c, rfl⟩
      rw [ixf_mem m]
      exact ixf_tks c
    · have ek : k = n := by omega
      subst ek
      have hl : (tks k).length = k := by unfold tks; rw [List.length_map, List.length_range]
      rw [ixf_app (fun z => by
        obtain ⟨j, hj, e2⟩ := List.mem_map.mp z
        have := List.mem_range.mp hj
        omega), hl, ixf_cons, if_pos rfl]
      rfl
def outE (s pl : List Int) : Option Int → Option (List Int × List Int)
  | none => none
  | some x => some (x :: s, pl)
/-- the code of a moved term leaves the term's value on the stack, or faults -/
theorem expr_runs {n : Nat} {cs pl : List Int} (hw : Words cs) (hc : cs.length = n) (hl : n ≤ pl.length) (hp : ∀ k, k < n → pl.getD k 0 = cs.getD k 0) : ∀ (e : Tm) (s : List Int), e.ok n → Runs (e.mv.code (tks n)) s pl (outE s pl (ev cs e))
  | .num z, s, _ => .one .push
  | .cell k, s, h => by
    obtain ⟨j, rfl⟩ : ∃ j : Nat, k = j := ⟨k.toNat, by have := h.1; omega⟩
    have hj : j < n := by have := h.2; omega
    simp only [Tm.mv, Tm.code, ev, outE, ixf_tks hj, Int.toNat_natCast]
    rw [← hp j hj]
    exact .one (.load (by omega))
  | .at f sz e, s, h => by
    obtain ⟨f0, s0, fs, ok⟩ := h
    obtain ⟨j, rfl⟩ : ∃ j : Nat, f = j := ⟨f.toNat, by omega⟩
    have hj : j < n := by omega
    have ih := expr_runs hw hc hl hp e s ok
    simp only [Tm.mv, Tm.code, ev, ixf_tks hj]
    have hz : ∀ z, ev cs e = some z → 0 ≤ z ∧ z < 65536 := fun z => ev_w hw ok
    generalize ev cs e = o at ih hz ⊢
    cases o with
    | none => exact Runs.appF ih
    | some z =>
      obtain ⟨i, rfl⟩ : ∃ i : Nat, z = i := ⟨z.toNat, by have := (hz z rfl).1; omega⟩
      refine Runs.app ih ?_
      by_cases c : sz ≤ (i : Int)
      · simp only [if_pos c, outE]
        exact .fault (.loadxF c)
      · simp only [if_neg c, outE]
        have e1 : ((j : Int) + (i : Int)).toNat = j + i := by omega
        rw [e1, ← hp (j + i) (by omega)]
        exact .one (.loadx (by omega) (by omega))
  | .neg e, s, h => by
    have ih := expr_runs hw hc hl hp e s h
    have hz : ∀ z, ev cs e = some z → Wd16 z := fun z => ev_w hw h
    simp only [Tm.mv, Tm.code, ev]
    generalize ev cs e = o at ih hz ⊢
    cases o with
    | none => exact Runs.appF ih
    | some z => exact Runs.app ih (.one (.neg (hz z rfl)))
  | .not e, s, h => by
    have ih := expr_runs hw hc hl hp e s h
    have hz : ∀ z, ev cs e = some z → Wd16 z := fun z => ev_w hw h
    simp only [Tm.mv, Tm.code, ev]
    generalize ev cs e = o at ih hz ⊢
    cases o with
    | none => exact Runs.appF ih
    | some z => exact Runs.app ih (.one (.not (hz z rfl)))
  | .bin op a b, s, h => by
    have i1 := expr_runs hw hc hl hp a s h.1
    have hz1 : ∀ z, ev cs a = some z → Wd16 z := fun z => ev_w hw h.1
    have hz2 : ∀ z, ev cs b = some z → Wd16 z := fun z => ev_w hw h.2
    simp only [Tm.mv, Tm.code, ev]
    rw [List.append_assoc]
    generalize ev cs a = o1 at i1 hz1 ⊢
    cases o1 with
    | none => exact Runs.appF i1
    | some x =>
      refine Runs.app i1 ?_
      have i2 := expr_runs hw hc hl hp b (x :: s) h.2
      generalize ev cs b = o2 at i2 hz2 ⊢
      cases o2 with
      | none => exact Runs.appF i2
      | some y =>
        refine Runs.app i2 ?_
        show Runs [.cal op] (y :: x :: s) pl (outE s pl (calc2 op x y))
        cases hx : calc2 op x y with
        | none => exact .fault (.calF (hz1 x rfl) (hz2 y rfl) hx)
        | some z => exact .one (.cal (hz1 x rfl) (hz2 y rfl) hx)
abbrev s_Workspace_advance : Stmt := inClass (topS 30) 3
theorem sc_Workspace_advance : FnScope ["self", "instruction"] ["self"] (defScope s_Workspace_advance) := ⟨rfl, rfl, rfl, by decide +kernel, rfl, by decide +kernel, by decide +kernel⟩
abbrev p_Workspace_advance : List Str := ["self"]
abbrev s__law_run : Stmt := topS 53
theorem sc__law_run : FnScope ["work", "k"] ["work"] (defScope s__law_run) := ⟨rfl, rfl, rfl, by decide +kernel, rfl, by decide +kernel, by decide +kernel⟩
abbrev p__law_run : List Str := ["work"]
abbrev s_law : Stmt := topS 54
theorem sc_law : FnScope ["script", "state", "many", "e", "cells", "goal", "takes", "moved", "places", "code", "work", "due", "k"] ["script"] (defScope s_law) := ⟨rfl, rfl, rfl, by decide +kernel, rfl, by decide +kernel, by decide +kernel⟩
abbrev p_law : List Str := ["script"]
/-! ### rows as data, as instructions -/
def IRow.vals : IRow → List V
  | .op x ns => .str x :: ns.map V.int
  | .cal o => [.str "calc", .str o.str]
def rowD : IRow → PyData
  | .op x ns => .tuple (.str x :: fInts ns)
  | .cal o => .tuple [.str "calc", .str o.str]
theorem row_in {H : Hp} {r : IRow} {v : V} (h : r.In H v) : ∃ p, v = .ref p ∧ H p = some (.tup r.vals) := by
  cases r <;> exact h
theorem row_dpm {M : List Addr} {H : Hp} {r : IRow} {p : Addr} (h : H p = some (.tup r.vals)) : DpM M H (.ref p) (rowD r) := by
  cases r with
  | op x ns => exact .tup h (.cons (.str _) (dpms_ints ns))
  | cal o => exact .tup h (.cons (.str _) (.cons (.str _) .nil))
theorem dpm_ints_inv {M : List Addr} {H : Hp} : ∀ {ns : List Int} {vs : List V}, DpMs M H vs (fInts ns) → vs = ns.map V.int
  | [], _, .nil => rfl
  | _ :: _, _, .cons (.int _) t => by rw [dpm_ints_inv t]; rfl
theorem dpm_row {M : List Addr} {H : Hp} {r : IRow} {v : V} (h : DpM M H v (rowD r)) : ∃ p, v = .ref p ∧ H p = some (.tup r.vals) := by
  cases r with
  | op x ns =>
    cases h with
    | tup h t =>
      cases t with
      | cons a t =>
        cases a
        rw [dpm_ints_inv t] at h
        exact ⟨_, rfl, h⟩
  | cal o =>
    cases h with
    | tup h t =>
      cases t with
      | cons a t =>
        cases a
        cases t with
        | cons a t =>
          cases a
          cases t
          exact ⟨_, rfl, h⟩
theorem row_depth (r : IRow) : (rowD r).depth < 2 := by
  cases r with
  | op x ns => simp [rowD, PyData.depth, PyData.depthAll, fints_depth]
  | cal o => simp [rowD, PyData.depth, PyData.depthAll]
theorem rows_dpm {M : List Addr} {H : Hp} : ∀ {rs : List IRow} {us : List V}, RowsIn H rs us → DpMs M H us (rs.map rowD)
  | [], _, .nil => .nil
  | _ :: _, _, .cons a t => by
    obtain ⟨p, rfl, hp⟩ := row_in a
    exact .cons (row_dpm hp) (rows_dpm t)
theorem dpm_rows {M : List Addr} {H : Hp} : ∀ {rs : List IRow} {us : List V}, DpMs M H us (rs.map rowD) → ∀ {i : Nat} {r : IRow}, rs[i]? = some r → ∃ p, us[i]? = some (.ref p) ∧ H p = some (.tup r.vals)
  | [], _, .nil, i, r, h => by simp at h
  | _ :: _, _, .cons a t, i, r, h => by
    cases i with
    | zero =>
      simp at h
      subst h
      obtain ⟨p, rfl, hp⟩ := dpm_row a
      exact ⟨p, rfl, hp⟩
    | succ i =>
      obtain ⟨p, h1, h2⟩ := dpm_rows t (i := i) (by simpa using h)
      exact ⟨p, by simpa using h1, h2⟩
def Is.row : Is → IRow
  | .push n => .op "push" [n]
  | .load j => .op "load" [(j : Nat)]
  | .store j => .op "store" [(j : Nat)]
  | .loadx j s => .op "loadx" [(j : Nat), s]
  | .storex j s => .op "storex" [(j : Nat), s]
  | .check s => .op "check" [s]
  | .neg => .op "neg" []
  | .not => .op "not" []
  | .calc o => .cal o
  | .jump a => .op "jump" [a]
  | .jzero a => .op "jzero" [a]
  | .stop => .op "stop" []
theorem row_vals (i : Is) : i.row.vals = i.vals := by cases i <;> rfl
theorem sm_ints : ∀ ns : List Int, smDs (fInts ns) = true
  | [] => rfl
  | n :: r => by
    show (smD (.int n) && smDs (fInts r)) = true
    rw [sm_ints r]
    rfl
theorem row_sm (i : Is) : smD (rowD i.row) = true := by
  cases i <;> simp [Is.row, rowD, smD, smDs, fInts]
theorem end_ne (i : Is) : PyData.eqv (rowD i.row) (.tuple [.str "end"]) = false := by
  cases i <;> simp [Is.row, rowD, fInts, PyData.eqv, PyData.eqvAll] <;> decide +kernel
theorem exec_does {r : IRow} {s pl s1 pl1 : List Int} (h : Exec r s pl (some (s1, pl1))) : ∃ i : Is, r = i.row ∧ s1.length ≤ s.length + 1 ∧ pl1.length = pl.length ∧ ∀ a, Does i ⟨pl, s, a, "ready"⟩ ⟨pl1, s1, a, "ready"⟩ := by
  cases h with
  | push => exact ⟨.push _, rfl, by simp only [List.length_cons]; omega, rfl, fun a => .push⟩
  | load h => exact ⟨.load _, rfl, by simp only [List.length_cons]; omega, rfl, fun a => .load h⟩
  | loadx h1 h2 => exact ⟨.loadx _ _, rfl, by simp only [List.length_cons]; omega, rfl, fun a => .loadx h1 h2⟩
  | neg h => exact ⟨.neg, rfl, by simp only [List.length_cons]; omega, rfl, fun a => .neg h⟩
  | not h => exact ⟨.not, rfl, by simp only [List.length_cons]; omega, rfl, fun a => .not h⟩
  | cal h1 h2 h3 => exact ⟨.calc _, rfl, by simp only [List.length_cons]; omega, rfl, fun a => .calc h1 h2 h3⟩
  | store h => exact ⟨.store _, rfl, by simp only [List.length_cons]; omega, by simp, fun a => .store h⟩
theorem exec_fault {r : IRow} {s pl : List Int} (h : Exec r s pl none) : ∃ i : Is, r = i.row ∧ ∀ a, ∃ w' : Ws, w'.st = ("faulted" : Str) ∧ Does i ⟨pl, s, a, "ready"⟩ w' := by
  cases h with
  | loadxF h => exact ⟨.loadx _ _, rfl, fun a => ⟨_, rfl, .loadxF h⟩⟩
  | calF h1 h2 h3 => exact ⟨.calc _, rfl, fun a => ⟨_, rfl, .calcF h1 h2 h3⟩⟩
/-! ### one step of the workspace -/
variable {C : Addr}
def sp_wadv (C : Addr) : Sp := fun vs H Q _ => ∃ (wk : Addr) (q : Wa) (cs s : List Int) (k : Nat) (us : List V) (t : Addr) (r : IRow), vs = [.ref wk] ∧ WAt C H wk q ⟨cs, s, (k : Int), "ready"⟩ ∧ H q.co = some (.lst us) ∧ q.co ∉ [wk, q.ce, q.sk] ∧ us[k]? = some (.ref t) ∧ H t = some (.tup r.vals) ∧ s.length < 80000 ∧
  ((∃ i w', r = i.row ∧ Does i ⟨cs, s, (k : Int) + 1, "ready"⟩ w' ∧ ∀ H' p, Kp [wk, q.ce, q.sk] H H' → WAt C H' wk q w' → H' p = some (.tup i.row.vals) → Q (.ref p) H') ∨ (r = .op "end" [] ∧ ∀ H' p, Kp [wk, q.ce, q.sk] H H' → WAt C H' wk q ⟨cs, s, (k : Int) + 1, "ready"⟩ → H' p = some (.tup [.str "end"]) → Q (.ref p) H'))
theorem ok_wadv (T : Glo K w mg) (W : WkK K C) (D : DnM K C "advance" "Workspace.advance" s_Workspace_advance p_Workspace_advance) (G_Workspace_step : MetC P w K mg base C "step" 4 p_Workspace_step (sp_wstep C)) (G_copied : Cal P w K mg base "copied" 5 p_copied (sp_copied 4)) : MetC P w K mg base C "advance" 6 p_Workspace_advance (sp_wadv C) := by
  obtain ⟨hc, n1, n2, n3, n4, n5, n6, n7, n8, n9⟩ := W
  refine D.ok sc_Workspace_advance (fun vs H Q E h => ?_) (fun f cdv A outer s H vs Q E hr h => ?_)
  · obtain ⟨_, _, _, _, _, _, _, _, rfl, _⟩ := h
    rfl
  obtain ⟨wk, q, cs, sk, k, us, t, r, rfl, wa, hco, hnco, hu, ht, hz, hh⟩ := h
  refine ⟨_, (pss_cons (ps_set (i := 1) sc_Workspace_advance.nd rfl (by first | exact Or.inl rfl | exact Or.inr rfl) (pe_ix ix_seq (pe_fld (pv 0) rfl) (pe_fld (pv 0) rfl) (fun _ _ => rfl))) (pss_cons (ps_fldaug (pv 0) pe_int in_add) (pss_cons (ps_expr (pe_mtC G_Workspace_step (hr.mono (by walk_at "lev")) (pv 0) (pa_cons (pv 1) pa_nil))) (pss_one (ps_ret (pe_cal G_copied (hr.mono (by walk_at "lev")) rfl (pa_cons (pv 1) pa_nil))))))), ?_⟩
  try dsimp only [cxOf, Cx.nox]
  have hob : H wk = some (.ins C q.dx (wfl q (k : Int) "ready")) := wa.ob
  simp only [wfl] at hob
  repeat' walk_at "st"
  refine q_ixL (sql hco) (atI_nat hu) ?_
  repeat' walk_at "st"
  refine ⟨q.dx, _, hob, by show 9 < 1000; decide, ?_⟩
  generalize hq : upd H wk _ = Hn
  have ku : Kp [wk] H Hn := by
    rw [← hq]
    exact kp_one hob (by intro _ z; cases z)
  have hu1 : Hn wk = some (.ins C q.dx (wfl q ((k : Int) + 1) "ready")) := by
    rw [← hq, upd_same]
    congr 2
  have ncw : q.ce ≠ wk := ne_knd wa.ce wa.ob (by intro z; cases z)
  have nkw : q.sk ≠ wk := ne_knd wa.sk wa.ob (by intro z; cases z)
  have wa1 : WAt C Hn wk q ⟨cs, sk, (k : Int) + 1, "ready"⟩ := ⟨hu1, ku.out _ _ (nin_c ncw List.not_mem_nil) wa.ce, ku.out _ _ (nin_c nkw List.not_mem_nil) wa.sk, wa.ne⟩
  have ht1 : Hn t = some (.tup r.vals) := ku.tup _ _ ht
  have sub1 : ∀ x, x ∈ [wk] → x ∈ [wk, q.ce, q.sk] := fun x hx => by rw [List.mem_singleton.mp hx]; exact List.mem_cons_self ..
  clear hq
  rcases hh with ⟨i, w', rfl, hd, kk⟩ | ⟨rfl, kk⟩
  · repeat' walk_at "st"
    refine c_wstep1 (i := i) (by rw [← row_vals]; exact ht1) hd wa1 hz (fun H2 k2 wa2 => ?_)
    have ht2 : H2 t = some (.tup i.row.vals) := k2.tup _ _ ht1
    repeat' walk_at "st"
    refine c_copied [] (row_dpm ht2) (Nat.lt_trans (row_depth _) (by decide)) (row_sm i) (fun x hx => absurd hx List.not_mem_nil) (fun H3 v e3 d3 => ?_)
    obtain ⟨p, rfl, hp⟩ := dpm_row d3
    repeat' walk_at "st"
    exact kk _ _ (((ku.sub sub1).trans k2).trans e3.kp) (wa2.exx e3) hp
  · repeat' walk_at "st"
    refine c_wstep2 (nm := "end") (rest := []) (by decide +kernel) ht1 ?_
    repeat' walk_at "st"
    refine c_copied (d := rowD (.op "end" [])) [] (row_dpm ht1) (Nat.lt_trans (row_depth _) (by decide)) (by decide +kernel) (fun x hx => absurd hx List.not_mem_nil) (fun H3 v e3 d3 => ?_)
    obtain ⟨p, rfl, hp⟩ := dpm_row d3
    repeat' walk_at "st"
    exact kk _ _ ((ku.sub sub1).trans e3.kp) (wa1.exx e3) hp
/-! ### the run -/
variable {C : Addr}
def Fin36 (o : Option (List Int × List Int)) (w : Ws) : Prop := match o with | some x => w.sk = x.1 ∧ w.cs = x.2 ∧ w.st = ("ready" : Str) | none => w.st = ("faulted" : Str)
theorem c_wadv1 {wk t : Addr} {q : Wa} {cs s : List Int} {k : Nat} {us : List V} {i : Is} {w' : Ws} {H : Hp} {Q : VK} {E : XK} (h1 : WAt C H wk q ⟨cs, s, (k : Int), "ready"⟩) (h2 : H q.co = some (.lst us)) (h3 : q.co ∉ [wk, q.ce, q.sk]) (h4 : us[k]? = some (.ref t)) (h5 : H t = some (.tup i.row.vals)) (h6 : s.length < 80000) (h7 : Does i ⟨cs, s, (k : Int) + 1, "ready"⟩ w')
    (kk : ∀ H' p, Kp [wk, q.ce, q.sk] H H' → WAt C H' wk q w' → H' p = some (.tup i.row.vals) → Q (.ref p) H') : sp_wadv C [.ref wk] H Q E := ⟨wk, q, cs, s, k, us, t, i.row, rfl, h1, h2, h3, h4, h5, h6, .inl ⟨i, w', rfl, h7, kk⟩⟩
theorem c_wadv2 {wk t : Addr} {q : Wa} {cs s : List Int} {k : Nat} {us : List V} {H : Hp} {Q : VK} {E : XK} (h1 : WAt C H wk q ⟨cs, s, (k : Int), "ready"⟩) (h2 : H q.co = some (.lst us)) (h3 : q.co ∉ [wk, q.ce, q.sk]) (h4 : us[k]? = some (.ref t)) (h5 : H t = some (.tup [.str "end"])) (h6 : s.length < 80000)
    (kk : ∀ H' p, Kp [wk, q.ce, q.sk] H H' → WAt C H' wk q ⟨cs, s, (k : Int) + 1, "ready"⟩ → H' p = some (.tup [.str "end"]) → Q (.ref p) H') : sp_wadv C [.ref wk] H Q E := ⟨wk, q, cs, s, k, us, t, .op "end" [], rfl, h1, h2, h3, h4, h5, h6, .inr ⟨rfl, kk⟩⟩
theorem q_eqEndN {K : PySem.W.Frag} {H : Hp} {Q : VK} {p p2 : Addr} {i : Is} (h1 : H p = some (.tup i.row.vals)) (h2 : H p2 = some (.tup [.str "end"])) (q : Q (.bl false) H) : rEqA K (.ref p) (.ref p2) H Q := by
  refine .inr ⟨rowD i.row, .tuple [.str "end"], dpm_dp (M := []) (row_dpm h1), .tup (sqt h2) (.cons (.str _) .nil), ?_, by decide +kernel, by rw [end_ne]; exact q⟩
  cases i <;> (try (rename_i o; cases o)) <;> simp [SeqAt.shaped, Is.row, rowD, fInts, PyData.canLay0, PyData.canLayAll0, PyData.depth, PyData.depthAll] <;> decide +kernel
theorem q_eqEndY {K : PySem.W.Frag} {H : Hp} {Q : VK} {p p2 : Addr} (h1 : H p = some (.tup [.str "end"])) (h2 : H p2 = some (.tup [.str "end"])) (q : Q (.bl true) H) : rEqA K (.ref p) (.ref p2) H Q :=
  .inr ⟨.tuple [.str "end"], .tuple [.str "end"], .tup (sqt h1) (.cons (.str _) .nil), .tup (sqt h2) (.cons (.str _) .nil), by decide +kernel, by decide +kernel, by rw [show PyData.eqv (.tuple [.str "end"]) (.tuple [.str "end"]) = true by decide +kernel]; exact q⟩
def sp_run (C : Addr) : Sp := fun vs H Q _ => ∃ (wk : Addr) (q : Wa) (cs : List Int) (rs : List IRow) (us : List V) (o : Option (List Int × List Int)), vs = [.ref wk] ∧ WAt C H wk q ⟨cs, [], 0, "ready"⟩ ∧ H q.co = some (.lst us) ∧ q.co ∉ [wk, q.ce, q.sk] ∧
  (∀ (i : Nat) (r : IRow), (rs ++ [IRow.op "end" []])[i]? = some r → ∃ p : Addr, us[i]? = some (V.ref p) ∧ H p = some (.tup r.vals)) ∧ Runs rs [] cs o ∧ rs.length < 390 ∧ ∀ H' w', Kp [wk, q.ce, q.sk] H H' → WAt C H' wk q w' → Fin36 o w' → Q (.bl true) H'
theorem ok_run (T : Glo K w mg) (W : WkK K C) (D : Dn K mg "_law_run" s__law_run p__law_run) (G_Workspace_advance : MetC P w K mg base C "advance" 6 p_Workspace_advance (sp_wadv C)) : Cal P w K mg base "_law_run" 7 p__law_run (sp_run C) := by
  obtain ⟨hc, n1, n2, n3, n4, n5, n6, n7, n8, n9⟩ := W
  refine D.ok sc__law_run (fun vs H Q E h => ?_) (fun f cdv A outer s H vs Q E hr h => ?_)
  · obtain ⟨_, _, _, _, _, _, rfl, _⟩ := h
    rfl
  obtain ⟨wk, q, cs, rs, us, o, rfl, wa, hco, hnco, hrows, hrun, hlen, kk⟩ := h
  refine ⟨_, (pss_cons (ps_for PassesOwn.never rfl (pi_range1 rfl T.n_range (pa_cons pe_int pa_nil)) (pg_name (i := 1) sc__law_run.nd rfl (by first | exact Or.inl rfl | exact Or.inr rfl)) (pss_one (ps_if (pt_cmpR (op_eqA (hu64 hr)) (pe_fld (pv 0) rfl) pe_str (nomark _)) (pss_one (ps_if (pt_cmpR (op_eqA (hu64 hr)) (pe_mtC0 G_Workspace_advance (hr.mono (by walk_at "lev")) (pv 0)) (pe_tup (pa_cons pe_str pa_nil)) (nomark _)) (pss_one (ps_ret pe_bl)) pss_nil)) pss_nil))) (pss_one (ps_ret (pe_cmpR (op_eqA (hu64 hr)) (pe_fld (pv 0) rfl) pe_str (nomark _))))), ?_⟩
  try dsimp only [cxOf, Cx.nox]
  repeat' walk_at "st"
  refine w_rng (lo := 0) (n := _) (fun i σ H' => ∃ y : Option V, σ = [some (.ref wk), y] ∧ Kp [wk, q.ce, q.sk] H H' ∧ ((∃ s pl, i ≤ rs.length ∧ s.length ≤ i ∧ Runs (rs.drop i) s pl o ∧ WAt C H' wk q ⟨pl, s, (i : Int), "ready"⟩) ∨ (o = none ∧ ∃ w : Ws, w.st = ("faulted" : Str) ∧ WAt C H' wk q w))) ?_ ?_ ?_
  · exact ⟨_, rfl, Kp.refl _, .inl ⟨[], cs, Nat.zero_le _, Nat.le_refl _, hrun, wa⟩⟩
  · rintro i σ H1 hi ⟨y, rfl, k1, hh⟩
    have hco1 := k1.out _ _ hnco hco
    rcases hh with ⟨s, pl, hi1, hs, hr1, wa1⟩ | ⟨ho, w1, hw1, wa1⟩
    · have hob : H1 wk = some (.ins C q.dx (wfl q (i : Int) "ready")) := wa1.ob
      simp only [wfl] at hob
      repeat' walk_at "st"
      rcases Nat.lt_or_ge i rs.length with hlt | hge
      · rw [List.drop_eq_getElem_cons hlt] at hr1
        obtain ⟨p0, hu0, hp0⟩ := hrows i rs[i] (by rw [List.getElem?_append_left hlt, List.getElem?_eq_getElem hlt])
        have hp1 := k1.tup _ _ hp0
        have ei : ((i + 1 : Nat) : Int) = (i : Int) + 1 := by omega
        generalize hrr : rs[i] = rr at *
        cases hr1 with
        | step hx hr2 =>
          obtain ⟨ii, rfl, hl2, hl3, hd⟩ := exec_does hx
          refine c_wadv1 wa1 hco1 hnco hu0 hp1 (by omega) (hd _) (fun H2 p2 k2 wa2 hp2 => ?_)
          repeat' walk_at "st"
          refine q_eqEndN (ke _ _ hp2) hn ?_
          repeat' walk_at "st"
          refine ⟨_, rfl, (k1.trans k2).trans ke.kp, .inl ⟨_, _, hlt, by omega, hr2, ?_⟩⟩
          rw [ei]
          exact wa2.exx ke
        | fault hx =>
          obtain ⟨ii, rfl, hd⟩ := exec_fault hx
          obtain ⟨w', hw', hd⟩ := hd ((i : Int) + 1)
          refine c_wadv1 wa1 hco1 hnco hu0 hp1 (by omega) hd (fun H2 p2 k2 wa2 hp2 => ?_)
          repeat' walk_at "st"
          refine q_eqEndN (ke _ _ hp2) hn ?_
          repeat' walk_at "st"
          exact ⟨_, rfl, (k1.trans k2).trans ke.kp, .inr ⟨rfl, w', hw', wa2.exx ke⟩⟩
      · have ei : i = rs.length := by omega
        rw [List.drop_eq_nil_of_le hge] at hr1
        cases hr1
        obtain ⟨p0, hu0, hp0⟩ := hrows i (.op "end" []) (by rw [List.getElem?_append_right hge, ei, Nat.sub_self]; rfl)
        have hp1 := k1.tup _ _ hp0
        refine c_wadv2 wa1 hco1 hnco hu0 hp1 (by omega) (fun H2 p2 k2 wa2 hp2 => ?_)
        repeat' walk_at "st"
        refine q_eqEndY (ke _ _ hp2) hn ?_
        repeat' walk_at "st"
        exact kk _ _ ((k1.trans k2).trans ke.kp) (wa2.exx ke) ⟨rfl, rfl, rfl⟩
    · have hob : H1 wk = some (.ins C q.dx (wfl q w1.pc "faulted")) := by rw [← hw1]; exact wa1.ob
      simp only [wfl] at hob
      repeat' walk_at "st"
      exact ⟨_, rfl, k1, .inr ⟨ho, w1, hw1, wa1⟩⟩
  · rintro σ H1 ⟨y, rfl, k1, hh⟩
    rcases hh with ⟨s, pl, hi1, hs, hr1, wa1⟩ | ⟨ho, w1, hw1, wa1⟩
    · have e400 : Int.toNat 400 = 400 := rfl
      omega
    · have hob : H1 wk = some (.ins C q.dx (wfl q w1.pc "faulted")) := by rw [← hw1]; exact wa1.ob
      simp only [wfl] at hob
      repeat' walk_at "st"
      subst ho
      exact kk _ w1 k1 wa1 hw1
variable {C : Addr}
def sp_law (K : PySem.W.Frag) : Sp := fun vs H Q _ => ∃ (a : Addr) (ns : List Int), vs = [.ref a] ∧ SqL K H a (ns.map V.int) ∧ ns.length ≤ 63 ∧ ∀ H', Q (.bl true) H'
theorem c_state {a : Addr} {ns : List Int} {H : Hp} {Q : VK} {E : XK} (h1 : SqL K H a (ns.map V.int)) (h2 : ns.length ≤ 63) (q : ∀ st c H', Ex H H' → H st = none → H c = none → StOk st c H' → Q (.ref st) H') : sp_state K [.ref a] H Q E := ⟨a, ns, rfl, h1, h2, q⟩
theorem kp_updL {H H9 : Hp} {p : Addr} {xs : List V} {o' : HO} (h : H p = some (.lst xs)) (e : upd H p o' = H9) : Kp [p] H H9 := by
  rw [← e]
  exact kp_one h (by intro _ z; cases z)
theorem ex_none {H H' : Hp} {x : Addr} (k : Ex H H') (h : H' x = none) : H x = none := by
  cases e : H x with
  | none => rfl
  | some u => exact absurd (k _ _ e) (by rw [h]; intro z; cases z)
theorem q_makWk {th ta ga co va : Addr} {nu pa : V} {pl : Nat} {tks gvs cs : List Int} {cd : List PyData} {H : Hp} {Q : VK} (h1 : H th = some (.tup [pa, .int (pl : Nat), .ref ta, .ref ga, .ref co])) (h2 : H ta = some (.lst (tks.map V.int))) (h3 : H ga = some (.lst (gvs.map V.int))) (h4 : DpM [] H (.ref co) (.list cd)) (h5 : PyData.depthAll cd ≤ 2)
    (h6 : smD (.list cd) = true) (h7 : H va = some (.lst (cs.map V.int))) (h8 : cs.length ≤ pl) (h9 : pl ≤ 500)
    (q : ∀ H' wk q, Ex H H' → H wk = none → q.nu = nu → q.pa = pa → H q.ce = none → H q.sk = none → H q.ta = none → H' q.ta = some (.lst (tks.map V.int)) → (q.ce ≠ q.ta ∧ q.sk ≠ q.ta ∧ q.ta ≠ wk) → DpM [q.ce, q.sk, wk] H' (.ref q.co) (.list cd) → WAt C H' wk q ⟨cs ++ List.replicate (pl - cs.length) 0, [], 0, "ready"⟩ → Q (.ref wk) H') : makK C (sp_wsinit C) Q [nu, .ref th, .ref va] H := by
  intro h dx nh ndx ne
  have fr : ∀ x, upd (upd H dx (.own h)) h (.ins C dx []) x = none → H x = none := fun x hx => by
    by_cases z : x = h
    · rw [z]; exact nh
    · rw [upd_ne z] at hx
      by_cases z2 : x = dx
      · rw [z2]; exact ndx
      · rw [upd_ne z2] at hx
        exact hx
  have ex : Ex H (upd (upd H dx (.own h)) h (.ins C dx [])) := fun b u hb => by rw [upd_ne (ne_of_none hb nh), upd_ne (ne_of_none hb ndx)]; exact hb
  refine ⟨h, th, dx, ta, ga, co, va, nu, pa, pl, tks, gvs, cs, cd, rfl, upd_same, ex _ _ h1, ex _ _ h2, ex _ _ h3, dpm_ex ex h4, h5, h6, ex _ _ h7, h8, h9, fun H' q0 k _ e2 e3 a1 a2 a3 b1 b2 dd w => ⟨rfl, ?_⟩⟩
  exact q H' h q0 (fun b u hb => k.out _ _ (nin_c (ne_of_none hb nh) List.not_mem_nil) (ex _ _ hb)) nh e2 e3 (fr _ a1) (fr _ a2) (fr _ a3) b1 b2 dd w
theorem tks_at {m j : Nat} (h : j < m) : (tks m)[j]? = some (3 + (j : Int)) := by
  unfold tks
  rw [List.getElem?_map, List.getElem?_range h]
  rfl
theorem tks_ne {m j k : Nat} (h : k < j) (hj : j < m) : (tks m)[k]? ≠ some (3 + (j : Int)) := by
  rw [tks_at (by omega)]
  intro z
  have := Option.some.inj z
  omega
theorem tks_len (m : Nat) : (tks m).length = m := by
  unfold tks
  rw [List.length_map, List.length_range]
theorem tks_mem {m j : Nat} (h : j < m) : 3 + (j : Int) ∈ tks m := List.mem_of_getElem? (tks_at h)
theorem c_run {wk : Addr} {q : Wa} {cs : List Int} {rs : List IRow} {us : List V} {o : Option (List Int × List Int)} {H : Hp} {Q : VK} {E : XK} (h1 : WAt C H wk q ⟨cs, [], 0, "ready"⟩) (h2 : H q.co = some (.lst us)) (h3 : q.co ∉ [wk, q.ce, q.sk])
    (h4 : ∀ (i : Nat) (r : IRow), (rs ++ [IRow.op "end" []])[i]? = some r → ∃ p : Addr, us[i]? = some (V.ref p) ∧ H p = some (.tup r.vals)) (h5 : Runs rs [] cs o) (h6 : rs.length < 390) (kk : ∀ H' w', Kp [wk, q.ce, q.sk] H H' → WAt C H' wk q w' → Fin36 o w' → Q (.bl true) H') : sp_run C [.ref wk] H Q E := ⟨wk, q, cs, rs, us, o, rfl, h1, h2, h3, h4, h5, h6, kk⟩
theorem rows_depth (rs : List IRow) : PyData.depthAll (rs.map rowD) ≤ 2 := fdepth_map rs fun r _ => Nat.le_of_lt (Nat.lt_of_lt_of_le (row_depth r) (by decide))
theorem sm_map {rs : List IRow} (h : ∀ r ∈ rs, smD (rowD r) = true) : smDs (rs.map rowD) = true := by
  induction rs with
  | nil => rfl
  | cons r t ih =>
    show (smD (rowD r) && smDs (t.map rowD)) = true
    rw [h r (List.mem_cons_self ..), ih fun x hx => h x (List.mem_cons_of_mem _ hx)]
    rfl
theorem sm_op (x : Str) (ns : List Int) (h : ns.length ≤ 900) : smD (rowD (.op x ns)) = true := by
  show (decide ((PyData.str x :: fInts ns).length ≤ 1000) && smDs (.str x :: fInts ns)) = true
  have e : smDs (.str x :: fInts ns) = true := by
    show (smD (.str x) && smDs (fInts ns)) = true
    rw [sm_ints]
    rfl
  rw [e, decide_eq_true (by rw [List.length_cons]; unfold fInts; rw [List.length_map]; omega)]
  rfl
theorem code_sm (ks : List Int) : ∀ e : Tm, ∀ r ∈ e.code ks, smD (rowD r) = true
  | .num n, r, h => by rw [List.mem_singleton.mp h]; exact sm_op _ _ (by simp)
  | .cell k, r, h => by rw [List.mem_singleton.mp h]; exact sm_op _ _ (by simp)
  | .at f s e, r, h => by
    rcases List.mem_append.mp h with h | h
    · exact code_sm ks e r h
    · rw [List.mem_singleton.mp h]; exact sm_op _ _ (by simp)
  | .neg e, r, h => by
    rcases List.mem_append.mp h with h | h
    · exact code_sm ks e r h
    · rw [List.mem_singleton.mp h]; exact sm_op _ _ (by simp)
  | .not e, r, h => by
    rcases List.mem_append.mp h with h | h
    · exact code_sm ks e r h
    · rw [List.mem_singleton.mp h]; exact sm_op _ _ (by simp)
  | .bin o a b, r, h => by
    rcases List.mem_append.mp h with h | h
    · rcases List.mem_append.mp h with h | h
      · exact code_sm ks a r h
      · exact code_sm ks b r h
    · rw [List.mem_singleton.mp h]; rfl
theorem set_sm (ks : List Int) (k : Int) (e : Tm) : smD (.list ((setRows ks k e ++ [IRow.op "end" []]).map rowD)) = (decide ((setRows ks k e ++ [IRow.op "end" []]).length ≤ 1000)) := by
  show (decide (((setRows ks k e ++ [IRow.op "end" []]).map rowD).length ≤ 1000) && smDs _) = _
  have s : smDs ((setRows ks k e ++ [IRow.op "end" []]).map rowD) = true := sm_map fun r h => by
    rcases List.mem_append.mp h with h | h
    · rcases List.mem_append.mp h with h | h
      · exact code_sm ks e r h
      · rw [List.mem_singleton.mp h]; exact sm_op _ _ (by simp)
    · rw [List.mem_singleton.mp h]; exact sm_op _ _ (by simp)
  rw [s, List.length_map, Bool.and_true]
theorem set_runs {n g : Nat} {cs : List Int} (hw : Words cs) (hc : cs.length = n) (hg : g < n) {e : Tm} (ok : e.ok n) : Runs (setRows (tks n) (3 + (g : Int)) e.mv) [] cs (match ev cs e with | some x => some ([], cs.set g x) | none => none) := by
  have h := expr_runs hw hc (Nat.le_of_eq hc.symm) (fun k _ => rfl) e [] ok
  unfold setRows
  rw [ixf_tks hg]
  generalize ev cs e = o at h ⊢
  cases o with
  | none => exact Runs.appF h
  | some x => exact Runs.app h (.one (.store (by omega)))
/-- all but g -/
def butG (cs : List Int) (g i : Nat) : List Int := ((List.range i).filter fun k => decide (k ≠ g)).map fun k => cs.getD k 0
theorem butG_0 (cs : List Int) (g : Nat) : butG cs g 0 = [] := rfl
theorem butG_ne {cs : List Int} {g i : Nat} (h : i ≠ g) : butG cs g (i + 1) = butG cs g i ++ [cs.getD i 0] := by
  unfold butG
  rw [List.range_succ, List.filter_append, List.map_append]
  congr 1
  rw [List.filter_cons_of_pos (by simpa using h)]
  rfl
theorem butG_eq {cs : List Int} {g : Nat} : butG cs g (g + 1) = butG cs g g := by
  unfold butG
  rw [List.range_succ, List.filter_append, List.map_append]
  rw [List.filter_cons_of_neg (by simp)]
  simp
theorem butG_len (cs : List Int) (g i : Nat) : (butG cs g i).length ≤ i := by
  unfold butG
  rw [List.length_map]
  exact Nat.le_trans (List.length_filter_le _ _) (by rw [List.length_range]; exact Nat.le_refl _)
theorem set_other {cs : List Int} {g k : Nat} {x : Int} (h : k ≠ g) : (cs.set g x).getD k 0 = cs.getD k 0 := by
  rw [List.getD_eq_getElem?_getD, List.getD_eq_getElem?_getD, List.getElem?_set_ne (Ne.symm h)]
theorem body_law {CC : Addr} {fd : FuncData} {fa : Addr} {F : Fun K "law" "law" s_law fa fd} (T : Glo K w mg) (G__law_state : Cal P w K mg base "_law_state" 1 p__law_state (sp_state K)) (G__law_draw : Cal P w K mg base "_law_draw" 1 p__law_draw sp_draw) (G__law_pick : Cal P w K mg base "_law_pick" 2 p__law_pick (sp_pick K))
    (G__law_expr : Cal P w K mg base "_law_expr" 8 p__law_expr (sp_gen 6)) (G__law_moved : Cal P w K mg base "_law_moved" 7 p__law_moved (sp_moved 6)) (G_compile_thread : Cal P w K mg base "compile_thread" 47 p_compile_thread sp_comp) (M_Workspace : MakC P w K mg base "Workspace" C 6 p_Workspace___init__ (sp_wsinit C)) (W : WkK K C)
    (G__law_run : Cal P w K mg base "_law_run" 7 p__law_run (sp_run C)) (G__law_value : Cal P w K mg base "_law_value" 7 p__law_value (sp_val K 6)) (G_Workspace_cell : MetC P w K mg base C "cell" 1 p_Workspace_cell (sp_wcell C)) : FnOk P w K mg base CX0 60 fa fd ["script"] (sp_law K) := by
  obtain ⟨hcW, n1, n2, n3, n4, n5, n6, n7, n8, n9⟩ := W
  refine F.ok sc_law (fun vs H Q E h => ?_) (fun cdv A outer s H vs Q E hr h => ?_)
  · obtain ⟨_, _, rfl, _⟩ := h
    rfl
  obtain ⟨a, ns, rfl, hs, hl, q⟩ := h
  refine ⟨_, (pss_cons (ps_set (i := 1) sc_law.nd rfl (by first | exact Or.inl rfl | exact Or.inr rfl) (pe_cal G__law_state (hr.mono (by walk_at "lev")) rfl (pa_cons (pv 0) pa_nil))) (pss_cons (ps_set (i := 2) sc_law.nd rfl (by first | exact Or.inl rfl | exact Or.inr rfl) (pe_op op_addA pe_int (pe_cal G__law_draw (hr.mono (by walk_at "lev")) rfl (pa_cons (pv 1) (pa_cons pe_int pa_nil))))) (pss_cons (ps_set (i := 3) sc_law.nd rfl (by first | exact Or.inl rfl | exact Or.inr rfl) (pe_cal G__law_expr (hr.mono (by walk_at "lev")) rfl (pa_cons (pv 1) (pa_cons (pv 2) (pa_cons (pe_op op_addA pe_int (pe_cal G__law_draw (hr.mono (by walk_at "lev")) rfl (pa_cons (pv 1) (pa_cons pe_int pa_nil)))) pa_nil))))) (pss_cons (ps_set (i := 4) sc_law.nd rfl (by first | exact Or.inl rfl | exact Or.inr rfl) (pe_lc (own := [("k", 12)]) (tt := tYes) rfl sc_law.nd (pi_range1 rfl T.n_range (pa_cons (pv 2) pa_nil)) (blkOk_by (N := ["script", "state", "many", "e", "cells", "goal", "takes", "moved", "places", "code", "work", "due", "k"]) (sc := defScope s_law) (by decide +kernel)) (fun _ _ _ _ _ => (pg_name (i := 12) sc_law.nd rfl (by first | exact Or.inl rfl | exact Or.inr rfl))) (fun _ _ _ _ _ => pts_nil) (fun _ _ _ _ _ => (pe_cal G__law_pick (hr.mono (by walk_at "lev")) rfl (pa_cons (pv 1) (pa_cons (pe_lst (pa_cons pe_int (pa_cons pe_int (pa_cons pe_int (pa_cons (pe_cal G__law_draw (hr.mono (by walk_at "lev")) rfl (pa_cons (pv 1) (pa_cons pe_int pa_nil))) (pa_cons (pe_cal G__law_draw (hr.mono (by walk_at "lev")) rfl (pa_cons (pv 1) (pa_cons pe_int pa_nil))) pa_nil)))))) pa_nil)))))) (pss_cons (ps_set (i := 5) sc_law.nd rfl (by first | exact Or.inl rfl | exact Or.inr rfl) (pe_cal G__law_draw (hr.mono (by walk_at "lev")) rfl (pa_cons (pv 1) (pa_cons (pv 2) pa_nil)))) (pss_cons (ps_setLc (i := 6) (own := [("k", 12)]) (tt := tYes) rfl sc_law.nd rfl rfl (sw_true rfl rfl rfl (by decide +kernel)) (pi_range1 rfl T.n_range (pa_cons (pv 2) pa_nil)) (blkOk_by (N := ["script", "state", "many", "e", "cells", "goal", "takes", "moved", "places", "code", "work", "due", "k"]) (sc := defScope s_law) (by decide +kernel)) (fun _ _ _ _ _ => (pg_name (i := 12) sc_law.nd rfl (by first | exact Or.inl rfl | exact Or.inr rfl))) (fun _ _ _ _ _ => pts_nil) (fun _ _ _ _ _ => (pe_op (op_addK (K := K) rfl) pe_int (pv 12)))) (pss_cons (ps_set (i := 7) sc_law.nd rfl (by first | exact Or.inl rfl | exact Or.inr rfl) (pe_cal G__law_moved (hr.mono (by walk_at "lev")) rfl (pa_cons (pv 3) pa_nil))) (pss_cons (ps_asg (pe_cal G_compile_thread (hr.mono (by walk_at "lev")) rfl (pa_cons (pe_tup (pa_cons pe_non (pa_cons (pv 6) (pa_cons (pe_lst (pa_cons (pe_op op_addA pe_int (pv 5)) pa_nil)) (pa_cons (pe_tup (pa_cons pe_str (pa_cons (pe_tup (pa_cons pe_str (pa_cons (pe_op op_addA pe_int (pv 5)) pa_nil))) (pa_cons (pv 7) pa_nil)))) pa_nil))))) pa_nil)) (pg_tup rfl (pgs_cons (pg_name (i := 8) sc_law.nd rfl (by first | exact Or.inl rfl | exact Or.inr rfl)) (pgs_cons (pg_name (i := 9) sc_law.nd rfl (by first | exact Or.inl rfl | exact Or.inr rfl)) pgs_nil)))) (pss_cons (ps_set (i := 10) sc_law.nd rfl (by first | exact Or.inl rfl | exact Or.inr rfl) (pe_mkC M_Workspace (hr.mono (by walk_at "lev")) rfl (pa_cons pe_int (pa_cons (pe_tup (pa_cons pe_non (pa_cons (pv 8) (pa_cons (pv 6) (pa_cons (pe_lst (pa_cons (pe_op op_addA pe_int (pv 5)) pa_nil)) (pa_cons (pv 9) pa_nil)))))) (pa_cons (pv 4) pa_nil))))) (pss_cons (ps_if (pt_not (pt_val (pe_cal G__law_run (hr.mono (by walk_at "lev")) rfl (pa_cons (pv 10) pa_nil)))) (pss_one (ps_ret pe_bl)) pss_nil) (pss_cons (ps_set (i := 11) sc_law.nd rfl (by first | exact Or.inl rfl | exact Or.inr rfl) (pe_cal G__law_value (hr.mono (by walk_at "lev")) rfl (pa_cons (pv 3) (pa_cons (pv 4) pa_nil)))) (pss_cons (ps_if (pt_cmpR op_isN1 (pv 11) pe_non (nomark _)) (pss_one (ps_ret (pe_cmpR (op_eqA (hu64 hr)) (pe_fld (pv 10) rfl) pe_str (nomark _)))) pss_nil) (pss_cons (ps_if (PW.pt (pw_or (pt_cmpR (op_neA (hu64 hr)) (pe_fld (pv 10) rfl) pe_str (nomark _)) (pw_or (pt_cmpR (op_neA (hu64 hr)) (pe_fld (pv 10) rfl) (pe_lst pa_nil) (nomark _)) (pw_or1 (pt_cmpR (op_neA (hu64 hr)) (pe_mtC G_Workspace_cell (hr.mono (by walk_at "lev")) (pv 10) (pa_cons (pe_op op_addA pe_int (pv 5)) pa_nil)) (pv 11) (nomark _)))))) (pss_one (ps_ret pe_bl)) pss_nil) (pss_one (ps_ret (pe_cmpR (op_eqA (hu64 hr)) (pe_lc (own := [("k", 12)]) rfl sc_law.nd (pi_range1 rfl T.n_range (pa_cons (pv 2) pa_nil)) (blkOk_by (N := ["script", "state", "many", "e", "cells", "goal", "takes", "moved", "places", "code", "work", "due", "k"]) (sc := defScope s_law) (by decide +kernel)) (fun _ _ _ _ _ => (pg_name (i := 12) sc_law.nd rfl (by first | exact Or.inl rfl | exact Or.inr rfl))) (fun _ _ _ _ _ => (pts_one (pt_cmpR (op_neK (K := K) rfl (hu64 hr)) (pv 12) (pv 5) (nomark _)))) (fun _ _ _ _ _ => (pe_mtC G_Workspace_cell (hr.mono (by walk_at "lev")) (pv 10) (pa_cons (pe_op (op_addK (K := K) rfl) pe_int (pv 12)) pa_nil)))) (pe_lc (own := [("k", 12)]) rfl sc_law.nd (pi_range1 rfl T.n_range (pa_cons (pv 2) pa_nil)) (blkOk_by (N := ["script", "state", "many", "e", "cells", "goal", "takes", "moved", "places", "code", "work", "due", "k"]) (sc := defScope s_law) (by decide +kernel)) (fun _ _ _ _ _ => (pg_name (i := 12) sc_law.nd rfl (by first | exact Or.inl rfl | exact Or.inr rfl))) (fun _ _ _ _ _ => (pts_one (pt_cmpR (op_neK (K := K) rfl (hu64 hr)) (pv 12) (pv 5) (nomark _)))) (fun _ _ _ _ _ => (pe_ix (ix_seqK (K := K) rfl) (pv 4) (pv 12) (fun _ _ => rfl)))) (nomark _))))))))))))))))), ?_⟩
  try dsimp only [cxOf, Cx.nox]
  repeat' walk_at "st"
  refine c_state hs hl ?_
  intro st c H1 e1 hst hc so
  repeat' walk_at "st"
  rename_i dA HA nA0 nA1 keA soA
  obtain ⟨m, em⟩ : ∃ m : Nat, 1 + dA = (m : Int) := ⟨(1 + dA).toNat, by omega⟩
  have m16 : 1 ≤ m ∧ m ≤ 6 := by omega
  rw [em]
  refine c_gen (k := (1 + dn).toNat) (by omega) so (by omega) ⟨by omega, by omega⟩ (fun e ev0 H2 hin hok hdp keB so2 => ?_)
  have hd6 : e.deep ≤ 6 := by omega
  clear hs
  repeat' walk_at "st"
  intro VA hVA
  have nVA : VA ∉ [st, c] := st_fresh so2 hVA
  refine lc_range (lo := 0) (n := _) (fun i H' => ∃ vs : List Int, vs.length = i ∧ (∀ x ∈ vs, Wd16 x) ∧ Kp [st, c] H2 H' ∧ StOk st c H' ∧ H' VA = some (.lst (vs.map V.int))) ?_ ?_ ?_
  · exact ⟨[], rfl, fun _ h => absurd h List.not_mem_nil, (Ex.mk hVA rfl).kp, st_ex (Ex.mk hVA rfl) so2, upd_same⟩
  · rintro i H3 hi ⟨vs, lv, hw, k3, so3, h3⟩
    rw [Int.toNat_natCast] at hi
    refine ⟨rfl, ?_⟩
    repeat' walk_at "st"
    have mm := List.mem_of_getElem? ej
    simp only [List.mem_cons, List.not_mem_nil, or_false] at mm
    obtain ⟨x, rfl, wx⟩ : ∃ x, v = .int x ∧ Wd16 x := by
      unfold Wd16
      rcases mm with rfl | rfl | rfl | rfl | rfl <;> exact ⟨_, rfl, by omega⟩
    have h4 : Hn VA = some (.lst (vs.map V.int)) := by walk_at "lift"
    refine ⟨_, h4, sl1000' (by rw [List.length_map]; omega), ?_⟩
    generalize hq : upd Hn VA _ = H9
    have k9 := kp_updL h4 hq
    have h9 := at_new hq
    refine ⟨vs ++ [x], by simp [lv], fun z hz => ?_, by walk_at "kpx", by walk_at "st_ok", ?_⟩
    · rcases List.mem_append.mp hz with h | h
      · exact hw z h
      · rw [List.mem_singleton.mp h]; exact wx
    · rw [h9, List.map_append]
      rfl
  rintro H3 ⟨vs, lv, hw, k3, so3, hV3⟩
  rw [Int.toNat_natCast] at lv
  have hin3 := tm_kp k3 hin
  repeat' walk_at "st"
  obtain ⟨H4, rfl⟩ : ∃ x, x = Hn := ⟨_, rfl⟩
  obtain ⟨g, rfl⟩ : ∃ g : Nat, dn = (g : Int) := ⟨dn.toNat, by omega⟩
  have hg : g < m := by omega
  have hin4 := tm_kp ke hin3
  have hV4 := ke.out _ _ nVA hV3
  have so4 := so
  intro TA hTA
  refine lc_range (lo := 0) (n := _) (fun i H' => Ex H4 H' ∧ H' TA = some (.lst ((tks i).map V.int))) ?_ ?_ ?_
  · exact ⟨Ex.mk hTA rfl, upd_same⟩
  · rintro i H5 hi ⟨e5, h5⟩
    rw [Int.toNat_natCast] at hi
    refine ⟨rfl, ?_⟩
    repeat' walk_at "st"
    refine ⟨_, h5, sl1000' (by rw [List.length_map, tks_len]; omega), ?_⟩
    generalize hq : upd H5 TA _ = H9
    have k9 := kp_updL h5 hq
    have h9 := at_new hq
    refine ⟨by walk_at "exx", ?_⟩
    rw [h9]
    unfold tks
    rw [List.range_succ, List.map_append, List.map_append]
    simp
  rintro H5 ⟨e5, hT5⟩
  rw [Int.toNat_natCast] at hT5
  have hin5 := tm_ex e5 hin4
  have hV5 := e5 _ _ hV4
  repeat' walk_at "st"
  refine c_moved hin5 hd6 (fun H6 mv0 e6 hmv => ?_)
  have hin6 := tm_ex e6 hin5
  have hV6 := e6 _ _ hV5
  have hT6 := e6 _ _ hT5
  repeat' walk_at "st"
  rename_i gl G1 hgl kg1 hgl1 cl G2 hcl kg2 hcl1 sl G3 hsl kg3 hsl1
  obtain ⟨G4, rfl⟩ : ∃ x, x = Hn := ⟨_, rfl⟩
  obtain ⟨thr, rfl⟩ : ∃ x, x = p := ⟨_, rfl⟩
  have x64 : Ex H6 G4 := ((kg1.trans kg2).trans kg3).trans ke
  have lcode : (e.mv.code (tks m)).length + 1 ≤ 64 := Nat.le_trans (code_le (tks m) e.mv) (by rw [mv_deep]; exact Nat.le_trans (Nat.pow_le_pow_right (by decide) hd6) (by decide))
  refine ⟨thr, TA, sl, .non, .ref gl, tks m, e.mv, 3 + (g : Int), rfl, hn, x64 _ _ hT6, ⟨cl, mv0, ke _ _ hsl1, ke _ _ (kg3 _ _ hcl1), tm_ex x64 hmv⟩, tks_mem hg, mv_over hok, by rw [tks_len]; omega, by omega, by rw [mv_deep]; omega, fun H7 p7 r us e7 nr7 hp7 hr7 hrows => ?_⟩
  have x67 : Ex H6 H7 := x64.trans e7
  have hin7 := tm_ex x67 hin6
  have hV7 := x67 _ _ hV6
  have hT7 := x67 _ _ hT6
  have hrd := rows_dpm (M := []) hrows
  rw [tks_len] at hp7
  clear hn hp hgl hgl1 hcl hcl1 hsl hsl1 kg1 kg2 kg3 ke
  repeat' walk_at "st"
  rename_i gl2 H71 hgl kg1 hgl1
  obtain ⟨H8, rfl⟩ : ∃ x, x = Hn := ⟨_, rfl⟩
  have x78 : Ex H7 H8 := kg1.trans ke
  have l66 : (setRows (tks m) (3 + (g : Int)) e.mv ++ [IRow.op "end" []]).length ≤ 70 := by
    unfold setRows
    rw [List.length_append, List.length_append, List.length_singleton, List.length_singleton]
    omega
  have dcd : DpM [] H8 (.ref r) (.list ((setRows (tks m) (3 + (g : Int)) e.mv ++ [IRow.op "end" []]).map rowD)) := dpm_ex x78 (.lst List.not_mem_nil hr7 hrd)
  have sm1 : smD (.list ((setRows (tks m) (3 + (g : Int)) e.mv ++ [IRow.op "end" []]).map rowD)) = true := by rw [set_sm]; exact decide_eq_true (Nat.le_trans l66 (by decide))
  have hV8 := x78 _ _ hV7
  have hin8 := tm_ex x78 hin7
  refine q_makWk (gvs := [3 + (g : Int)]) hn (x78 _ _ hT7) (ke _ _ hgl1) dcd (rows_depth _) sm1 hV8 (by omega) (by omega) (fun H9 wk qw k89 nwk enu epa nce nsk nta hwt hnn dq wa => ?_)
  have wa : WAt C H9 wk qw ⟨vs, [], 0, "ready"⟩ := by
    have e0 : m - vs.length = 0 := by omega
    rw [e0, List.replicate_zero, List.append_nil] at wa
    exact wa
  have hV9 := k89 _ _ hV8
  have hin9 := tm_ex k89 hin8
  obtain ⟨us9, nco, hco9, hrow9⟩ : ∃ us9 : List V, qw.co ∉ [qw.ce, qw.sk, wk] ∧ H9 qw.co = some (.lst us9) ∧ DpMs [qw.ce, qw.sk, wk] H9 us9 ((setRows (tks m) (3 + (g : Int)) e.mv ++ [IRow.op "end" []]).map rowD) := by
    cases dq with
    | lst n h t => exact ⟨_, n, h, t⟩
  have nco2 : qw.co ∉ [wk, qw.ce, qw.sk] := fun z => nco (by
    simp only [List.mem_cons, List.not_mem_nil, or_false] at z ⊢
    rcases z with z | z | z
    · exact .inr (.inr z)
    · exact .inl z
    · exact .inr (.inl z))
  have nVw : VA ∉ [wk, qw.ce, qw.sk] := nin_c (ne_of_none hV8 nwk) (nin_c (ne_of_none hV8 nce) (nin_c (ne_of_none hV8 nsk) List.not_mem_nil))
  have nqw : qw.ta ∉ [wk, qw.ce, qw.sk] := nin_c hnn.2.2 (nin_c hnn.1.symm (nin_c hnn.2.1.symm List.not_mem_nil))
  clear hn hp ke hgl hgl1 kg1
  repeat' walk_at "st"
  refine c_run wa hco9 nco2 (fun i r hi => dpm_rows hrow9 hi) (set_runs hw lv hg hok) (by have := l66; rw [List.length_append, List.length_singleton] at this; omega) (fun HA w' kA waA hfin => ?_)
  have hVA := kA.out _ _ nVw hV9
  have hinA := tm_kp kA hin9
  have hwtA := kA.out _ _ nqw hwt
  repeat' walk_at "st"
  refine c_val hinA (by rw [lv]; exact hok) hd6 hVA hw (fun HB eB => ?_)
  have waB := waA.exx eB
  have hVB := eB _ _ hVA
  have hwtB := eB _ _ hwtA
  clear hrd hrows dcd hrow9 hin hin3 hin4 hin5 hin6 hin7 hin8 hin9 hinA hmv
  generalize ev vs e = o at hfin ⊢
  cases o with
  | none =>
    have hf : w'.st = ("faulted" : Str) := hfin
    have hob : HB wk = some (.ins C qw.dx (wfl qw w'.pc "faulted")) := by rw [← hf]; exact waB.ob
    simp only [optV]
    simp only [wfl] at hob
    repeat' walk_at "st"
    exact q _
  | some x =>
    obtain ⟨f1, f2, f3⟩ : w'.sk = [] ∧ w'.cs = vs.set g x ∧ w'.st = ("ready" : Str) := hfin
    have hob : HB wk = some (.ins C qw.dx (wfl qw w'.pc "ready")) := by rw [← f3]; exact waB.ob
    have hsk : HB qw.sk = some (.lst []) := by rw [waB.sk, f1]; rfl
    simp only [optV]
    simp only [wfl] at hob
    repeat' walk_at "st"
    refine fq_neInts (ns := []) (ke _ _ hsk) hn ?_
    repeat' walk_at "st"
    obtain ⟨HC, rfl⟩ : ∃ x, x = Hn := ⟨_, rfl⟩
    have waC := waB.exx ke
    have hVC := ke _ _ hVB
    have hwtC := ke _ _ hwtB
    have lw : w'.cs.length = m := by rw [f2, List.length_set]; exact lv
    have hobC := ke _ _ hob
    clear hn hp ke hob hsk
    refine c_wcell (j := g) waC hwtC (tks_at hg) (fun k hk => tks_ne hk hg) (by omega) ?_
    have ex1 : w'.cs.getD g 0 = x := by rw [f2, List.getD_eq_getElem?_getD, List.getElem?_set_self (by omega)]; rfl
    rw [ex1]
    repeat' walk_at "st"
    clear keA keB k3 e5 e6 x64 e7 x67 x78 hp7 hr7 hT5 hT6 hT7 hV3 hV4 hV5 hV6 hV7 hV8 hV9 hVA hVB hwtA hwtB k89 kA eB waA waB wa dq hco9 soA so so2 so3 so4 e1 hst hc hwt nwk nce nsk l66 sm1 lcode
    intro DA hDA
    refine lc_range (lo := 0) (n := _) (fun i H' => Ex HC H' ∧ H' DA = some (.lst ((butG vs g i).map V.int))) ?_ ?_ ?_
    · exact ⟨Ex.mk hDA rfl, upd_same⟩
    · rintro i H' hi ⟨e1', h1'⟩
      rw [Int.toNat_natCast] at hi
      refine ⟨rfl, ?_⟩
      repeat' walk_at "st"
      · refine c_wcell (j := i) (waC.exx e1') (e1' _ _ hwtC) (by rw [tks_at hi]; congr 1; omega) (fun k hk => by rw [show (3 : Int) + (0 + (i : Int)) = 3 + (i : Int) by omega]; exact tks_ne hk hi) (by omega) ?_
        refine ⟨_, h1', sl1000' (by rw [List.length_map]; have := butG_len vs g i; omega), ?_⟩
        generalize hq : upd H' DA _ = H9'
        have h9' := at_new hq
        have k9' := kp_updL h1' hq
        refine ⟨kp_new k9' e1' hDA, ?_⟩
        rw [h9', butG_ne (by omega), List.map_append, f2, set_other (by omega)]
        rfl
      · have ei : i = g := by omega
        subst ei
        rw [butG_eq]
        exact ⟨e1', h1'⟩
    rintro HD ⟨eD, hDA'⟩
    repeat' walk_at "st"
    have hVD := eD _ _ hVC
    intro DB hDB
    rw [Int.toNat_natCast] at hDA'
    refine lc_range (lo := 0) (n := _) (fun i H' => Ex HD H' ∧ H' DB = some (.lst ((butG vs g i).map V.int))) ?_ ?_ ?_
    · exact ⟨Ex.mk hDB rfl, upd_same⟩
    · rintro i H' hi ⟨e1', h1'⟩
      rw [Int.toNat_natCast] at hi
      have hVi := e1' _ _ hVD
      have ai : atI (vs.map V.int) (0 + (i : Int)) = some (.int (vs.getD i 0)) := by
        rw [show (0 : Int) + (i : Int) = ((i : Nat) : Int) by omega]
        exact getD_at (by omega)
      refine ⟨rfl, ?_⟩
      iterate 6 (walk_at "st")
      · iterate 4 (walk_at "st")
        refine q_ixL (sql hVi) ai ?_
        refine ⟨_, h1', sl1000' (by rw [List.length_map]; have := butG_len vs g i; omega), ?_⟩
        generalize hq : upd H' DB _ = H9'
        have h9' := at_new hq
        have k9' := kp_updL h1' hq
        refine ⟨kp_new k9' e1' hDB, ?_⟩
        rw [h9', butG_ne (by omega), List.map_append]
        rfl
      · repeat' walk_at "st"
        have ei : i = g := by omega
        subst ei
        rw [butG_eq]
        exact ⟨e1', h1'⟩
    rintro HE ⟨eE, hDB'⟩
    rw [Int.toNat_natCast] at hDB'
    refine fq_eqInts (eE _ _ hDA') hDB' ?_
    exact q _
abbrev s_add_preparing : Stmt := topS 6
theorem sc_add_preparing : FnScope ["code", "target", "_", "size", "e", "k"] ["code", "target"] (defScope s_add_preparing) := ⟨rfl, rfl, rfl, by decide +kernel, rfl, by decide +kernel, by decide +kernel⟩
abbrev p_add_preparing : List Str := ["code", "target"]
abbrev s_add_finishing : Stmt := topS 7
theorem sc_add_finishing : FnScope ["code", "target", "k", "_", "first", "size"] ["code", "target", "k"] (defScope s_add_finishing) := ⟨rfl, rfl, rfl, by decide +kernel, rfl, by decide +kernel, by decide +kernel⟩
abbrev p_add_finishing : List Str := ["code", "target", "k"]
abbrev s_add_give : Stmt := topS 10
theorem sc_add_give : FnScope ["code", "s"] ["code", "s"] (defScope s_add_give) := ⟨rfl, rfl, rfl, by decide +kernel, rfl, by decide +kernel, by decide +kernel⟩
abbrev p_add_give : List Str := ["code", "s"]
abbrev s_add_take : Stmt := topS 11
theorem sc_add_take : FnScope ["code", "s", "_", "c", "target", "k"] ["code", "s"] (defScope s_add_take) := ⟨rfl, rfl, rfl, by decide +kernel, rfl, by decide +kernel, by decide +kernel⟩
abbrev p_add_take : List Str := ["code", "s"]
abbrev s_add_fork : Stmt := topS 12
theorem sc_add_fork : FnScope ["code", "s", "t", "takes"] ["code", "s"] (defScope s_add_fork) := ⟨rfl, rfl, rfl, by decide +kernel, rfl, by decide +kernel, by decide +kernel⟩
abbrev p_add_fork : List Str := ["code", "s"]
abbrev s_add_seq : Stmt := topS 13
theorem sc_add_seq : FnScope ["code", "s", "part"] ["code", "s"] (defScope s_add_seq) := ⟨rfl, rfl, rfl, by decide +kernel, rfl, by decide +kernel, by decide +kernel⟩
abbrev p_add_seq : List Str := ["code", "s"]
abbrev s_add_if : Stmt := topS 14
theorem sc_add_if : FnScope ["code", "s", "_", "e", "first", "second", "to_second", "to_end"] ["code", "s"] (defScope s_add_if) := ⟨rfl, rfl, rfl, by decide +kernel, rfl, by decide +kernel, by decide +kernel⟩
abbrev p_add_if : List Str := ["code", "s"]
abbrev s_add_repeat : Stmt := topS 15
theorem sc_add_repeat : FnScope ["code", "s", "_", "e", "many", "inner", "i", "head", "to_end", "also_to_end"] ["code", "s"] (defScope s_add_repeat) := ⟨rfl, rfl, rfl, by decide +kernel, rfl, by decide +kernel, by decide +kernel⟩
abbrev p_add_repeat : List Str := ["code", "s"]
abbrev s_add_alt : Stmt := topS 16
theorem sc_add_alt : FnScope ["code", "s", "guards", "prepared", "either", "rows", "to_end", "index", "_", "c", "target", "part", "address", "row", "k"] ["code", "s"] (defScope s_add_alt) := ⟨rfl, rfl, rfl, by decide +kernel, rfl, by decide +kernel, by decide +kernel⟩
abbrev p_add_alt : List Str := ["code", "s"]
abbrev s_add_guard : Stmt := topS 17
theorem sc_add_guard : FnScope ["code", "guard", "k"] ["code", "guard"] (defScope s_add_guard) := ⟨rfl, rfl, rfl, by decide +kernel, rfl, by decide +kernel, by decide +kernel⟩
abbrev p_add_guard : List Str := ["code", "guard"]
abbrev s_add_guarded : Stmt := topS 18
theorem sc_add_guarded : FnScope ["code", "k", "target", "behind", "prepared"] ["code", "k", "target"] (defScope s_add_guarded) := ⟨rfl, rfl, rfl, by decide +kernel, rfl, by decide +kernel, by decide +kernel⟩
abbrev p_add_guarded : List Str := ["code", "k", "target"]
abbrev s_Code_leave : Stmt := inClass (topS 1) 5
theorem sc_Code_leave : FnScope ["self"] ["self"] (defScope s_Code_leave) := ⟨rfl, rfl, rfl, by decide +kernel, rfl, by decide +kernel, by decide +kernel⟩
abbrev p_Code_leave : List Str := ["self"]
abbrev s_Code_fill : Stmt := inClass (topS 1) 6
theorem sc_Code_fill : FnScope ["self", "address", "instruction"] ["self", "address", "instruction"] (defScope s_Code_fill) := ⟨rfl, rfl, rfl, by decide +kernel, rfl, by decide +kernel, by decide +kernel⟩
abbrev p_Code_fill : List Str := ["self", "address", "instruction"]
abbrev s_Code_jump_here : Stmt := inClass (topS 1) 7
theorem sc_Code_jump_here : FnScope ["self", "name", "address"] ["self", "name", "address"] (defScope s_Code_jump_here) := ⟨rfl, rfl, rfl, by decide +kernel, rfl, by decide +kernel, by decide +kernel⟩
abbrev p_Code_jump_here : List Str := ["self", "name", "address"]
theorem build_law {C_Code C_Workspace : Addr} {fd : FuncData} {fa : Addr} (F : Fun K "law" "law" s_law fa fd) (T : Glo K w mg) (D_compile_thread : Dn K mg "compile_thread" s_compile_thread p_compile_thread) (D_add_expression : Dn K mg "add_expression" s_add_expression p_add_expression) (D_add_indexed : Dn K mg "add_indexed" s_add_indexed p_add_indexed) (D_add_storing : Dn K mg "add_storing" s_add_storing p_add_storing) (D_add_preparing : Dn K mg "add_preparing" s_add_preparing p_add_preparing) (D_add_finishing : Dn K mg "add_finishing" s_add_finishing p_add_finishing) (D_add_statement : Dn K mg "add_statement" s_add_statement p_add_statement) (D_add_set : Dn K mg "add_set" s_add_set p_add_set) (D_add_give : Dn K mg "add_give" s_add_give p_add_give) (D_add_take : Dn K mg "add_take" s_add_take p_add_take) (D_add_fork : Dn K mg "add_fork" s_add_fork p_add_fork) (D_add_seq : Dn K mg "add_seq" s_add_seq p_add_seq) (D_add_if : Dn K mg "add_if" s_add_if p_add_if) (D_add_repeat : Dn K mg "add_repeat" s_add_repeat p_add_repeat) (D_add_alt : Dn K mg "add_alt" s_add_alt p_add_alt) (D_add_guard : Dn K mg "add_guard" s_add_guard p_add_guard) (D_add_guarded : Dn K mg "add_guarded" s_add_guarded p_add_guarded) (D_copied : Dn K mg "copied" s_copied p_copied) (D_operate : Dn K mg "operate" s_operate p_operate) (D_calculate : Dn K mg "calculate" s_calculate p_calculate) (D_divide : Dn K mg "divide" s_divide p_divide) (D_holds : Dn K mg "holds" s_holds p_holds) (D_bit : Dn K mg "bit" s_bit p_bit) (D_step_push : Dn K mg "step_push" s_step_push p_step_push) (D_step_load : Dn K mg "step_load" s_step_load p_step_load) (D_step_store : Dn K mg "step_store" s_step_store p_step_store) (D_step_loadx : Dn K mg "step_loadx" s_step_loadx p_step_loadx) (D_step_storex : Dn K mg "step_storex" s_step_storex p_step_storex) (D_step_check : Dn K mg "step_check" s_step_check p_step_check) (D_index_fits : Dn K mg "index_fits" s_index_fits p_index_fits) (D_step_operation : Dn K mg "step_operation" s_step_operation p_step_operation) (D_step_calc : Dn K mg "step_calc" s_step_calc p_step_calc) (D_push_value : Dn K mg "push_value" s_push_value p_push_value) (D_step_jump : Dn K mg "step_jump" s_step_jump p_step_jump) (D_step_jzero : Dn K mg "step_jzero" s_step_jzero p_step_jzero) (D_step_stop : Dn K mg "step_stop" s_step_stop p_step_stop) (D__law_state : Dn K mg "_law_state" s__law_state p__law_state) (D__law_draw : Dn K mg "_law_draw" s__law_draw p__law_draw) (D__law_pick : Dn K mg "_law_pick" s__law_pick p__law_pick) (D__law_expr : Dn K mg "_law_expr" s__law_expr p__law_expr) (D__law_two : Dn K mg "_law_two" s__law_two p__law_two) (D__law_value : Dn K mg "_law_value" s__law_value p__law_value) (D__law_moved : Dn K mg "_law_moved" s__law_moved p__law_moved) (D__law_run : Dn K mg "_law_run" s__law_run p__law_run) (D_Code___init__ : DnI K mg "Code" "Code.__init__" C_Code s_Code___init__ p_Code___init__) (D_Code_new_place : DnM K C_Code "new_place" "Code.new_place" s_Code_new_place p_Code_new_place) (D_Code_place_of : DnM K C_Code "place_of" "Code.place_of" s_Code_place_of p_Code_place_of) (D_Code_here : DnM K C_Code "here" "Code.here" s_Code_here p_Code_here) (D_Code_emit : DnM K C_Code "emit" "Code.emit" s_Code_emit p_Code_emit) (D_Code_leave : DnM K C_Code "leave" "Code.leave" s_Code_leave p_Code_leave) (D_Code_fill : DnM K C_Code "fill" "Code.fill" s_Code_fill p_Code_fill) (D_Code_jump_here : DnM K C_Code "jump_here" "Code.jump_here" s_Code_jump_here p_Code_jump_here) (D_Workspace___init__ : DnI K mg "Workspace" "Workspace.__init__" C_Workspace s_Workspace___init__ p_Workspace___init__) (D_Workspace_cell : DnM K C_Workspace "cell" "Workspace.cell" s_Workspace_cell p_Workspace_cell) (D_Workspace_store : DnM K C_Workspace "store" "Workspace.store" s_Workspace_store p_Workspace_store) (D_Workspace_advance : DnM K C_Workspace "advance" "Workspace.advance" s_Workspace_advance p_Workspace_advance) (D_Workspace_step : DnM K C_Workspace "step" "Workspace.step" s_Workspace_step p_Workspace_step) (W : CdK K C_Code) (WW : WkK K C_Workspace) (AD : Added K w mg) (SD : Steps K w mg) : FnOk P w K mg base CX0 60 fa fd ["script"] (sp_law K) := by
  have dr := ok_draw (P := P) (w := w) (base := base) T D__law_draw
  have pi := ok_pick T D__law_pick dr
  have cini := ok_cinit (P := P) (w := w) (base := base) T W D_Code___init__
  have em := ok_emit (P := P) (w := w) (base := base) T W D_Code_emit
  have po := ok_pof (P := P) (w := w) (base := base) T W D_Code_place_of
  have ex := expr_all T W D_add_expression D_add_indexed em po 20
  have ix := ok_indexed T W D_add_indexed (by omega) em po ex
  have e2 := expr_all T W D_add_expression D_add_indexed em po 21
  have sto := ok_storing T W D_add_storing (by omega) em po ix
  have se := ok_set T D_add_set sto e2
  have stm := ok_stmt T AD D_add_statement em (by omega) se
  have cmp := ok_comp T W D_compile_thread (by omega) cini em stm
  have ge := gen_all T D__law_expr dr pi 6
  have mo := moved_all (P := P) (w := w) (base := base) T D__law_moved 6
  have tw := ok_two (P := P) (w := w) (base := base) T D__law_two
  have va := val_all T D__law_value tw 6
  have bi := ok_bit (P := P) (w := w) (base := base) D_bit
  have ho := ok_holds (P := P) (w := w) (base := base) D_holds
  have di := ok_divide (P := P) (w := w) (base := base) D_divide
  have ca := ok_calculate T D_calculate bi ho di
  have op := ok_operate T D_operate bi
  have fi := ok_fits (P := P) (w := w) (base := base) T WW D_index_fits
  have pv := ok_pval (P := P) (w := w) (base := base) T WW D_push_value
  have co := copied_all (P := P) (w := w) (base := base) T D_copied 4
  have ini := ok_wsinit T WW D_Workspace___init__ co
  have st := ok_wstep T SD D_Workspace_step (ok_push T WW D_step_push) (ok_load T WW D_step_load) (ok_store T WW D_step_store) (ok_loadx T WW D_step_loadx fi) (ok_storex T WW D_step_storex fi) (ok_check T WW D_step_check fi) (ok_scalc T WW D_step_calc pv ca) (ok_jump T WW D_step_jump) (ok_jzero T WW D_step_jzero) (ok_stop T WW D_step_stop) (ok_oper T WW "neg" (.inl rfl) D_step_operation pv op) (ok_oper T WW "not" (.inr rfl) D_step_operation pv op)
  have adv := ok_wadv T WW D_Workspace_advance st co
  have run := ok_run T WW D__law_run adv
  exact body_law (CC := C_Code) (F := F) T (ok_state T D__law_state) dr pi ge mo cmp ini WW run va (ok_wcell T WW D_Workspace_cell)
theorem dn_mk {h : Heap} {x : Str} {st : Stmt} {ps : List Str} {f : Addr} {oc : Value} {od an : Option Addr} {osl : Array (Option Value)} {kV doc pm cdv ct : Value} (X : K.In h) (G : h.Ns mainGlobals mg) (a : PySem.W.nsIn K mainGlobals x = some (some (.ref f)))
    (l : K.lookup f = some ⟨oc, od, .func (PySem.W.fnOf x x (defArgs st) (defBody st) (defScope st) .none kV doc pm an cdv ct), osl⟩) (c : PySem.W.codeIn K cdv x = true) (k : PySem.W.keepIn K (.ref f) = true)
    (hb : ∀ (kV doc pm : Value) (an : Option Addr) (cdv ct : Value) (us : List Value), us.length = ps.length → bindArgs (PySem.W.fnOf x x (defArgs st) (defBody st) (defScope st) .none kV doc pm an cdv ct) ⟨us, []⟩ = pure (ps.zip us)) : Dn K mg x st ps :=
  ⟨f, _, fun_mk l c k, PySem.W.mg_of X G a, (fun_mk l c k).binds hb⟩
theorem all_mk {l : PySem.W.OpenLaw} {w : World} {K : PySem.W.Frag} {h : Heap} {mg : Str → Option Value} {fa : Addr} (X : K.In h) (G : h.Ns mainGlobals mg) (hfa : mg "law" = some (.ref fa))
    {f0 : Addr} {od0 an0 : Option Addr} {sl0 : Array (Option Value)} {oc0 kV0 dc0 pm0 cd0 ct0 : Value}
    {f1 : Addr} {od1 an1 : Option Addr} {sl1 : Array (Option Value)} {oc1 kV1 dc1 pm1 cd1 ct1 : Value}
    {f2 : Addr} {od2 an2 : Option Addr} {sl2 : Array (Option Value)} {oc2 kV2 dc2 pm2 cd2 ct2 : Value}
    {f3 : Addr} {od3 an3 : Option Addr} {sl3 : Array (Option Value)} {oc3 kV3 dc3 pm3 cd3 ct3 : Value}
    {f4 : Addr} {od4 an4 : Option Addr} {sl4 : Array (Option Value)} {oc4 kV4 dc4 pm4 cd4 ct4 : Value}
    {f5 : Addr} {od5 an5 : Option Addr} {sl5 : Array (Option Value)} {oc5 kV5 dc5 pm5 cd5 ct5 : Value}
    {f6 : Addr} {od6 an6 : Option Addr} {sl6 : Array (Option Value)} {oc6 kV6 dc6 pm6 cd6 ct6 : Value}
    {f7 : Addr} {od7 an7 : Option Addr} {sl7 : Array (Option Value)} {oc7 kV7 dc7 pm7 cd7 ct7 : Value}
    {f8 : Addr} {od8 an8 : Option Addr} {sl8 : Array (Option Value)} {oc8 kV8 dc8 pm8 cd8 ct8 : Value}
    {f9 : Addr} {od9 an9 : Option Addr} {sl9 : Array (Option Value)} {oc9 kV9 dc9 pm9 cd9 ct9 : Value}
    {f10 : Addr} {od10 an10 : Option Addr} {sl10 : Array (Option Value)} {oc10 kV10 dc10 pm10 cd10 ct10 : Value}
    {f11 : Addr} {od11 an11 : Option Addr} {sl11 : Array (Option Value)} {oc11 kV11 dc11 pm11 cd11 ct11 : Value}
    {f12 : Addr} {od12 an12 : Option Addr} {sl12 : Array (Option Value)} {oc12 kV12 dc12 pm12 cd12 ct12 : Value}
    {f13 : Addr} {od13 an13 : Option Addr} {sl13 : Array (Option Value)} {oc13 kV13 dc13 pm13 cd13 ct13 : Value}
    {f14 : Addr} {od14 an14 : Option Addr} {sl14 : Array (Option Value)} {oc14 kV14 dc14 pm14 cd14 ct14 : Value}
    {f15 : Addr} {od15 an15 : Option Addr} {sl15 : Array (Option Value)} {oc15 kV15 dc15 pm15 cd15 ct15 : Value}
    {f16 : Addr} {od16 an16 : Option Addr} {sl16 : Array (Option Value)} {oc16 kV16 dc16 pm16 cd16 ct16 : Value}
    {f17 : Addr} {od17 an17 : Option Addr} {sl17 : Array (Option Value)} {oc17 kV17 dc17 pm17 cd17 ct17 : Value}
    {f18 : Addr} {od18 an18 : Option Addr} {sl18 : Array (Option Value)} {oc18 kV18 dc18 pm18 cd18 ct18 : Value}
    {f19 : Addr} {od19 an19 : Option Addr} {sl19 : Array (Option Value)} {oc19 kV19 dc19 pm19 cd19 ct19 : Value}
    {f20 : Addr} {od20 an20 : Option Addr} {sl20 : Array (Option Value)} {oc20 kV20 dc20 pm20 cd20 ct20 : Value}
    {f21 : Addr} {od21 an21 : Option Addr} {sl21 : Array (Option Value)} {oc21 kV21 dc21 pm21 cd21 ct21 : Value}
    {f22 : Addr} {od22 an22 : Option Addr} {sl22 : Array (Option Value)} {oc22 kV22 dc22 pm22 cd22 ct22 : Value}
    {f23 : Addr} {od23 an23 : Option Addr} {sl23 : Array (Option Value)} {oc23 kV23 dc23 pm23 cd23 ct23 : Value}
    {f24 : Addr} {od24 an24 : Option Addr} {sl24 : Array (Option Value)} {oc24 kV24 dc24 pm24 cd24 ct24 : Value}
    {f25 : Addr} {od25 an25 : Option Addr} {sl25 : Array (Option Value)} {oc25 kV25 dc25 pm25 cd25 ct25 : Value}
    {f26 : Addr} {od26 an26 : Option Addr} {sl26 : Array (Option Value)} {oc26 kV26 dc26 pm26 cd26 ct26 : Value}
    {f27 : Addr} {od27 an27 : Option Addr} {sl27 : Array (Option Value)} {oc27 kV27 dc27 pm27 cd27 ct27 : Value}
    {f28 : Addr} {od28 an28 : Option Addr} {sl28 : Array (Option Value)} {oc28 kV28 dc28 pm28 cd28 ct28 : Value}
    {f29 : Addr} {od29 an29 : Option Addr} {sl29 : Array (Option Value)} {oc29 kV29 dc29 pm29 cd29 ct29 : Value}
    {f30 : Addr} {od30 an30 : Option Addr} {sl30 : Array (Option Value)} {oc30 kV30 dc30 pm30 cd30 ct30 : Value}
    {f31 : Addr} {od31 an31 : Option Addr} {sl31 : Array (Option Value)} {oc31 kV31 dc31 pm31 cd31 ct31 : Value}
    {f32 : Addr} {od32 an32 : Option Addr} {sl32 : Array (Option Value)} {oc32 kV32 dc32 pm32 cd32 ct32 : Value}
    {f33 : Addr} {od33 an33 : Option Addr} {sl33 : Array (Option Value)} {oc33 kV33 dc33 pm33 cd33 ct33 : Value}
    {f34 : Addr} {od34 an34 : Option Addr} {sl34 : Array (Option Value)} {oc34 kV34 dc34 pm34 cd34 ct34 : Value}
    {f35 : Addr} {od35 an35 : Option Addr} {sl35 : Array (Option Value)} {oc35 kV35 dc35 pm35 cd35 ct35 : Value}
    {f36 : Addr} {od36 an36 : Option Addr} {sl36 : Array (Option Value)} {oc36 kV36 dc36 pm36 cd36 ct36 : Value}
    {f37 : Addr} {od37 an37 : Option Addr} {sl37 : Array (Option Value)} {oc37 kV37 dc37 pm37 cd37 ct37 : Value}
    {f38 : Addr} {od38 an38 : Option Addr} {sl38 : Array (Option Value)} {oc38 kV38 dc38 pm38 cd38 ct38 : Value}
    {f39 : Addr} {od39 an39 : Option Addr} {sl39 : Array (Option Value)} {oc39 kV39 dc39 pm39 cd39 ct39 : Value}
    {f40 : Addr} {od40 an40 : Option Addr} {sl40 : Array (Option Value)} {oc40 kV40 dc40 pm40 cd40 ct40 : Value}
    {f41 : Addr} {od41 an41 : Option Addr} {sl41 : Array (Option Value)} {oc41 kV41 dc41 pm41 cd41 ct41 : Value}
    {f42 : Addr} {od42 an42 : Option Addr} {sl42 : Array (Option Value)} {oc42 kV42 dc42 pm42 cd42 ct42 : Value}
    {f43 : Addr} {od43 an43 : Option Addr} {sl43 : Array (Option Value)} {oc43 kV43 dc43 pm43 cd43 ct43 : Value}
    {f44 : Addr} {od44 an44 : Option Addr} {sl44 : Array (Option Value)} {oc44 kV44 dc44 pm44 cd44 ct44 : Value}
    {C_Code : Addr}
    {f_Code___init__ : Addr} {od_Code___init__ an_Code___init__ : Option Addr} {sl_Code___init__ : Array (Option Value)} {oc_Code___init__ kV_Code___init__ dc_Code___init__ pm_Code___init__ cd_Code___init__ ct_Code___init__ : Value}
    {f_Code_new_place : Addr} {od_Code_new_place an_Code_new_place : Option Addr} {sl_Code_new_place : Array (Option Value)} {oc_Code_new_place kV_Code_new_place dc_Code_new_place pm_Code_new_place cd_Code_new_place ct_Code_new_place : Value}
    {f_Code_place_of : Addr} {od_Code_place_of an_Code_place_of : Option Addr} {sl_Code_place_of : Array (Option Value)} {oc_Code_place_of kV_Code_place_of dc_Code_place_of pm_Code_place_of cd_Code_place_of ct_Code_place_of : Value}
    {f_Code_here : Addr} {od_Code_here an_Code_here : Option Addr} {sl_Code_here : Array (Option Value)} {oc_Code_here kV_Code_here dc_Code_here pm_Code_here cd_Code_here ct_Code_here : Value}
    {f_Code_emit : Addr} {od_Code_emit an_Code_emit : Option Addr} {sl_Code_emit : Array (Option Value)} {oc_Code_emit kV_Code_emit dc_Code_emit pm_Code_emit cd_Code_emit ct_Code_emit : Value}
    {f_Code_leave : Addr} {od_Code_leave an_Code_leave : Option Addr} {sl_Code_leave : Array (Option Value)} {oc_Code_leave kV_Code_leave dc_Code_leave pm_Code_leave cd_Code_leave ct_Code_leave : Value}
    {f_Code_fill : Addr} {od_Code_fill an_Code_fill : Option Addr} {sl_Code_fill : Array (Option Value)} {oc_Code_fill kV_Code_fill dc_Code_fill pm_Code_fill cd_Code_fill ct_Code_fill : Value}
    {f_Code_jump_here : Addr} {od_Code_jump_here an_Code_jump_here : Option Addr} {sl_Code_jump_here : Array (Option Value)} {oc_Code_jump_here kV_Code_jump_here dc_Code_jump_here pm_Code_jump_here cd_Code_jump_here ct_Code_jump_here : Value}
    {C_Workspace : Addr}
    {f_Workspace___init__ : Addr} {od_Workspace___init__ an_Workspace___init__ : Option Addr} {sl_Workspace___init__ : Array (Option Value)} {oc_Workspace___init__ kV_Workspace___init__ dc_Workspace___init__ pm_Workspace___init__ cd_Workspace___init__ ct_Workspace___init__ : Value}
    {f_Workspace_cell : Addr} {od_Workspace_cell an_Workspace_cell : Option Addr} {sl_Workspace_cell : Array (Option Value)} {oc_Workspace_cell kV_Workspace_cell dc_Workspace_cell pm_Workspace_cell cd_Workspace_cell ct_Workspace_cell : Value}
    {f_Workspace_store : Addr} {od_Workspace_store an_Workspace_store : Option Addr} {sl_Workspace_store : Array (Option Value)} {oc_Workspace_store kV_Workspace_store dc_Workspace_store pm_Workspace_store cd_Workspace_store ct_Workspace_store : Value}
    {f_Workspace_advance : Addr} {od_Workspace_advance an_Workspace_advance : Option Addr} {sl_Workspace_advance : Array (Option Value)} {oc_Workspace_advance kV_Workspace_advance dc_Workspace_advance pm_Workspace_advance cd_Workspace_advance ct_Workspace_advance : Value}
    {f_Workspace_step : Addr} {od_Workspace_step an_Workspace_step : Option Addr} {sl_Workspace_step : Array (Option Value)} {oc_Workspace_step kV_Workspace_step dc_Workspace_step pm_Workspace_step cd_Workspace_step ct_Workspace_step : Value}
    (a0 : PySem.W.nsIn K mainGlobals "compile_thread" = some (some (.ref f0))) (l0 : K.lookup f0 = some ⟨oc0, od0, .func (PySem.W.fnOf "compile_thread" "compile_thread" (defArgs s_compile_thread) (defBody s_compile_thread) (defScope s_compile_thread) .none kV0 dc0 pm0 an0 cd0 ct0), sl0⟩) (c0 : PySem.W.codeIn K cd0 "compile_thread" = true) (k0 : PySem.W.keepIn K (.ref f0) = true)
    (a1 : PySem.W.nsIn K mainGlobals "add_expression" = some (some (.ref f1))) (l1 : K.lookup f1 = some ⟨oc1, od1, .func (PySem.W.fnOf "add_expression" "add_expression" (defArgs s_add_expression) (defBody s_add_expression) (defScope s_add_expression) .none kV1 dc1 pm1 an1 cd1 ct1), sl1⟩) (c1 : PySem.W.codeIn K cd1 "add_expression" = true) (k1 : PySem.W.keepIn K (.ref f1) = true)
    (a2 : PySem.W.nsIn K mainGlobals "add_indexed" = some (some (.ref f2))) (l2 : K.lookup f2 = some ⟨oc2, od2, .func (PySem.W.fnOf "add_indexed" "add_indexed" (defArgs s_add_indexed) (defBody s_add_indexed) (defScope s_add_indexed) .none kV2 dc2 pm2 an2 cd2 ct2), sl2⟩) (c2 : PySem.W.codeIn K cd2 "add_indexed" = true) (k2 : PySem.W.keepIn K (.ref f2) = true)
    (a3 : PySem.W.nsIn K mainGlobals "add_storing" = some (some (.ref f3))) (l3 : K.lookup f3 = some ⟨oc3, od3, .func (PySem.W.fnOf "add_storing" "add_storing" (defArgs s_add_storing) (defBody s_add_storing) (defScope s_add_storing) .none kV3 dc3 pm3 an3 cd3 ct3), sl3⟩) (c3 : PySem.W.codeIn K cd3 "add_storing" = true) (k3 : PySem.W.keepIn K (.ref f3) = true)
    (a4 : PySem.W.nsIn K mainGlobals "add_preparing" = some (some (.ref f4))) (l4 : K.lookup f4 = some ⟨oc4, od4, .func (PySem.W.fnOf "add_preparing" "add_preparing" (defArgs s_add_preparing) (defBody s_add_preparing) (defScope s_add_preparing) .none kV4 dc4 pm4 an4 cd4 ct4), sl4⟩) (c4 : PySem.W.codeIn K cd4 "add_preparing" = true) (k4 : PySem.W.keepIn K (.ref f4) = true)
    (a5 : PySem.W.nsIn K mainGlobals "add_finishing" = some (some (.ref f5))) (l5 : K.lookup f5 = some ⟨oc5, od5, .func (PySem.W.fnOf "add_finishing" "add_finishing" (defArgs s_add_finishing) (defBody s_add_finishing) (defScope s_add_finishing) .none kV5 dc5 pm5 an5 cd5 ct5), sl5⟩) (c5 : PySem.W.codeIn K cd5 "add_finishing" = true) (k5 : PySem.W.keepIn K (.ref f5) = true)
    (a6 : PySem.W.nsIn K mainGlobals "add_statement" = some (some (.ref f6))) (l6 : K.lookup f6 = some ⟨oc6, od6, .func (PySem.W.fnOf "add_statement" "add_statement" (defArgs s_add_statement) (defBody s_add_statement) (defScope s_add_statement) .none kV6 dc6 pm6 an6 cd6 ct6), sl6⟩) (c6 : PySem.W.codeIn K cd6 "add_statement" = true) (k6 : PySem.W.keepIn K (.ref f6) = true)
    (a7 : PySem.W.nsIn K mainGlobals "add_set" = some (some (.ref f7))) (l7 : K.lookup f7 = some ⟨oc7, od7, .func (PySem.W.fnOf "add_set" "add_set" (defArgs s_add_set) (defBody s_add_set) (defScope s_add_set) .none kV7 dc7 pm7 an7 cd7 ct7), sl7⟩) (c7 : PySem.W.codeIn K cd7 "add_set" = true) (k7 : PySem.W.keepIn K (.ref f7) = true)
    (a8 : PySem.W.nsIn K mainGlobals "add_give" = some (some (.ref f8))) (l8 : K.lookup f8 = some ⟨oc8, od8, .func (PySem.W.fnOf "add_give" "add_give" (defArgs s_add_give) (defBody s_add_give) (defScope s_add_give) .none kV8 dc8 pm8 an8 cd8 ct8), sl8⟩) (c8 : PySem.W.codeIn K cd8 "add_give" = true) (k8 : PySem.W.keepIn K (.ref f8) = true)
    (a9 : PySem.W.nsIn K mainGlobals "add_take" = some (some (.ref f9))) (l9 : K.lookup f9 = some ⟨oc9, od9, .func (PySem.W.fnOf "add_take" "add_take" (defArgs s_add_take) (defBody s_add_take) (defScope s_add_take) .none kV9 dc9 pm9 an9 cd9 ct9), sl9⟩) (c9 : PySem.W.codeIn K cd9 "add_take" = true) (k9 : PySem.W.keepIn K (.ref f9) = true)
    (a10 : PySem.W.nsIn K mainGlobals "add_fork" = some (some (.ref f10))) (l10 : K.lookup f10 = some ⟨oc10, od10, .func (PySem.W.fnOf "add_fork" "add_fork" (defArgs s_add_fork) (defBody s_add_fork) (defScope s_add_fork) .none kV10 dc10 pm10 an10 cd10 ct10), sl10⟩) (c10 : PySem.W.codeIn K cd10 "add_fork" = true) (k10 : PySem.W.keepIn K (.ref f10) = true)
    (a11 : PySem.W.nsIn K mainGlobals "add_seq" = some (some (.ref f11))) (l11 : K.lookup f11 = some ⟨oc11, od11, .func (PySem.W.fnOf "add_seq" "add_seq" (defArgs s_add_seq) (defBody s_add_seq) (defScope s_add_seq) .none kV11 dc11 pm11 an11 cd11 ct11), sl11⟩) (c11 : PySem.W.codeIn K cd11 "add_seq" = true) (k11 : PySem.W.keepIn K (.ref f11) = true)
    (a12 : PySem.W.nsIn K mainGlobals "add_if" = some (some (.ref f12))) (l12 : K.lookup f12 = some ⟨oc12, od12, .func (PySem.W.fnOf "add_if" "add_if" (defArgs s_add_if) (defBody s_add_if) (defScope s_add_if) .none kV12 dc12 pm12 an12 cd12 ct12), sl12⟩) (c12 : PySem.W.codeIn K cd12 "add_if" = true) (k12 : PySem.W.keepIn K (.ref f12) = true)
    (a13 : PySem.W.nsIn K mainGlobals "add_repeat" = some (some (.ref f13))) (l13 : K.lookup f13 = some ⟨oc13, od13, .func (PySem.W.fnOf "add_repeat" "add_repeat" (defArgs s_add_repeat) (defBody s_add_repeat) (defScope s_add_repeat) .none kV13 dc13 pm13 an13 cd13 ct13), sl13⟩) (c13 : PySem.W.codeIn K cd13 "add_repeat" = true) (k13 : PySem.W.keepIn K (.ref f13) = true)
    (a14 : PySem.W.nsIn K mainGlobals "add_alt" = some (some (.ref f14))) (l14 : K.lookup f14 = some ⟨oc14, od14, .func (PySem.W.fnOf "add_alt" "add_alt" (defArgs s_add_alt) (defBody s_add_alt) (defScope s_add_alt) .none kV14 dc14 pm14 an14 cd14 ct14), sl14⟩) (c14 : PySem.W.codeIn K cd14 "add_alt" = true) (k14 : PySem.W.keepIn K (.ref f14) = true)
    (a15 : PySem.W.nsIn K mainGlobals "add_guard" = some (some (.ref f15))) (l15 : K.lookup f15 = some ⟨oc15, od15, .func (PySem.W.fnOf "add_guard" "add_guard" (defArgs s_add_guard) (defBody s_add_guard) (defScope s_add_guard) .none kV15 dc15 pm15 an15 cd15 ct15), sl15⟩) (c15 : PySem.W.codeIn K cd15 "add_guard" = true) (k15 : PySem.W.keepIn K (.ref f15) = true)
    (a16 : PySem.W.nsIn K mainGlobals "add_guarded" = some (some (.ref f16))) (l16 : K.lookup f16 = some ⟨oc16, od16, .func (PySem.W.fnOf "add_guarded" "add_guarded" (defArgs s_add_guarded) (defBody s_add_guarded) (defScope s_add_guarded) .none kV16 dc16 pm16 an16 cd16 ct16), sl16⟩) (c16 : PySem.W.codeIn K cd16 "add_guarded" = true) (k16 : PySem.W.keepIn K (.ref f16) = true)
    (a17 : PySem.W.nsIn K mainGlobals "copied" = some (some (.ref f17))) (l17 : K.lookup f17 = some ⟨oc17, od17, .func (PySem.W.fnOf "copied" "copied" (defArgs s_copied) (defBody s_copied) (defScope s_copied) .none kV17 dc17 pm17 an17 cd17 ct17), sl17⟩) (c17 : PySem.W.codeIn K cd17 "copied" = true) (k17 : PySem.W.keepIn K (.ref f17) = true)
    (a18 : PySem.W.nsIn K mainGlobals "operate" = some (some (.ref f18))) (l18 : K.lookup f18 = some ⟨oc18, od18, .func (PySem.W.fnOf "operate" "operate" (defArgs s_operate) (defBody s_operate) (defScope s_operate) .none kV18 dc18 pm18 an18 cd18 ct18), sl18⟩) (c18 : PySem.W.codeIn K cd18 "operate" = true) (k18 : PySem.W.keepIn K (.ref f18) = true)
    (a19 : PySem.W.nsIn K mainGlobals "calculate" = some (some (.ref f19))) (l19 : K.lookup f19 = some ⟨oc19, od19, .func (PySem.W.fnOf "calculate" "calculate" (defArgs s_calculate) (defBody s_calculate) (defScope s_calculate) .none kV19 dc19 pm19 an19 cd19 ct19), sl19⟩) (c19 : PySem.W.codeIn K cd19 "calculate" = true) (k19 : PySem.W.keepIn K (.ref f19) = true)
    (a20 : PySem.W.nsIn K mainGlobals "divide" = some (some (.ref f20))) (l20 : K.lookup f20 = some ⟨oc20, od20, .func (PySem.W.fnOf "divide" "divide" (defArgs s_divide) (defBody s_divide) (defScope s_divide) .none kV20 dc20 pm20 an20 cd20 ct20), sl20⟩) (c20 : PySem.W.codeIn K cd20 "divide" = true) (k20 : PySem.W.keepIn K (.ref f20) = true)
    (a21 : PySem.W.nsIn K mainGlobals "holds" = some (some (.ref f21))) (l21 : K.lookup f21 = some ⟨oc21, od21, .func (PySem.W.fnOf "holds" "holds" (defArgs s_holds) (defBody s_holds) (defScope s_holds) .none kV21 dc21 pm21 an21 cd21 ct21), sl21⟩) (c21 : PySem.W.codeIn K cd21 "holds" = true) (k21 : PySem.W.keepIn K (.ref f21) = true)
    (a22 : PySem.W.nsIn K mainGlobals "bit" = some (some (.ref f22))) (l22 : K.lookup f22 = some ⟨oc22, od22, .func (PySem.W.fnOf "bit" "bit" (defArgs s_bit) (defBody s_bit) (defScope s_bit) .none kV22 dc22 pm22 an22 cd22 ct22), sl22⟩) (c22 : PySem.W.codeIn K cd22 "bit" = true) (k22 : PySem.W.keepIn K (.ref f22) = true)
    (a23 : PySem.W.nsIn K mainGlobals "step_push" = some (some (.ref f23))) (l23 : K.lookup f23 = some ⟨oc23, od23, .func (PySem.W.fnOf "step_push" "step_push" (defArgs s_step_push) (defBody s_step_push) (defScope s_step_push) .none kV23 dc23 pm23 an23 cd23 ct23), sl23⟩) (c23 : PySem.W.codeIn K cd23 "step_push" = true) (k23 : PySem.W.keepIn K (.ref f23) = true)
    (a24 : PySem.W.nsIn K mainGlobals "step_load" = some (some (.ref f24))) (l24 : K.lookup f24 = some ⟨oc24, od24, .func (PySem.W.fnOf "step_load" "step_load" (defArgs s_step_load) (defBody s_step_load) (defScope s_step_load) .none kV24 dc24 pm24 an24 cd24 ct24), sl24⟩) (c24 : PySem.W.codeIn K cd24 "step_load" = true) (k24 : PySem.W.keepIn K (.ref f24) = true)
    (a25 : PySem.W.nsIn K mainGlobals "step_store" = some (some (.ref f25))) (l25 : K.lookup f25 = some ⟨oc25, od25, .func (PySem.W.fnOf "step_store" "step_store" (defArgs s_step_store) (defBody s_step_store) (defScope s_step_store) .none kV25 dc25 pm25 an25 cd25 ct25), sl25⟩) (c25 : PySem.W.codeIn K cd25 "step_store" = true) (k25 : PySem.W.keepIn K (.ref f25) = true)
    (a26 : PySem.W.nsIn K mainGlobals "step_loadx" = some (some (.ref f26))) (l26 : K.lookup f26 = some ⟨oc26, od26, .func (PySem.W.fnOf "step_loadx" "step_loadx" (defArgs s_step_loadx) (defBody s_step_loadx) (defScope s_step_loadx) .none kV26 dc26 pm26 an26 cd26 ct26), sl26⟩) (c26 : PySem.W.codeIn K cd26 "step_loadx" = true) (k26 : PySem.W.keepIn K (.ref f26) = true)
    (a27 : PySem.W.nsIn K mainGlobals "step_storex" = some (some (.ref f27))) (l27 : K.lookup f27 = some ⟨oc27, od27, .func (PySem.W.fnOf "step_storex" "step_storex" (defArgs s_step_storex) (defBody s_step_storex) (defScope s_step_storex) .none kV27 dc27 pm27 an27 cd27 ct27), sl27⟩) (c27 : PySem.W.codeIn K cd27 "step_storex" = true) (k27 : PySem.W.keepIn K (.ref f27) = true)
    (a28 : PySem.W.nsIn K mainGlobals "step_check" = some (some (.ref f28))) (l28 : K.lookup f28 = some ⟨oc28, od28, .func (PySem.W.fnOf "step_check" "step_check" (defArgs s_step_check) (defBody s_step_check) (defScope s_step_check) .none kV28 dc28 pm28 an28 cd28 ct28), sl28⟩) (c28 : PySem.W.codeIn K cd28 "step_check" = true) (k28 : PySem.W.keepIn K (.ref f28) = true)
    (a29 : PySem.W.nsIn K mainGlobals "index_fits" = some (some (.ref f29))) (l29 : K.lookup f29 = some ⟨oc29, od29, .func (PySem.W.fnOf "index_fits" "index_fits" (defArgs s_index_fits) (defBody s_index_fits) (defScope s_index_fits) .none kV29 dc29 pm29 an29 cd29 ct29), sl29⟩) (c29 : PySem.W.codeIn K cd29 "index_fits" = true) (k29 : PySem.W.keepIn K (.ref f29) = true)
    (a30 : PySem.W.nsIn K mainGlobals "step_operation" = some (some (.ref f30))) (l30 : K.lookup f30 = some ⟨oc30, od30, .func (PySem.W.fnOf "step_operation" "step_operation" (defArgs s_step_operation) (defBody s_step_operation) (defScope s_step_operation) .none kV30 dc30 pm30 an30 cd30 ct30), sl30⟩) (c30 : PySem.W.codeIn K cd30 "step_operation" = true) (k30 : PySem.W.keepIn K (.ref f30) = true)
    (a31 : PySem.W.nsIn K mainGlobals "step_calc" = some (some (.ref f31))) (l31 : K.lookup f31 = some ⟨oc31, od31, .func (PySem.W.fnOf "step_calc" "step_calc" (defArgs s_step_calc) (defBody s_step_calc) (defScope s_step_calc) .none kV31 dc31 pm31 an31 cd31 ct31), sl31⟩) (c31 : PySem.W.codeIn K cd31 "step_calc" = true) (k31 : PySem.W.keepIn K (.ref f31) = true)
    (a32 : PySem.W.nsIn K mainGlobals "push_value" = some (some (.ref f32))) (l32 : K.lookup f32 = some ⟨oc32, od32, .func (PySem.W.fnOf "push_value" "push_value" (defArgs s_push_value) (defBody s_push_value) (defScope s_push_value) .none kV32 dc32 pm32 an32 cd32 ct32), sl32⟩) (c32 : PySem.W.codeIn K cd32 "push_value" = true) (k32 : PySem.W.keepIn K (.ref f32) = true)
    (a33 : PySem.W.nsIn K mainGlobals "step_jump" = some (some (.ref f33))) (l33 : K.lookup f33 = some ⟨oc33, od33, .func (PySem.W.fnOf "step_jump" "step_jump" (defArgs s_step_jump) (defBody s_step_jump) (defScope s_step_jump) .none kV33 dc33 pm33 an33 cd33 ct33), sl33⟩) (c33 : PySem.W.codeIn K cd33 "step_jump" = true) (k33 : PySem.W.keepIn K (.ref f33) = true)
    (a34 : PySem.W.nsIn K mainGlobals "step_jzero" = some (some (.ref f34))) (l34 : K.lookup f34 = some ⟨oc34, od34, .func (PySem.W.fnOf "step_jzero" "step_jzero" (defArgs s_step_jzero) (defBody s_step_jzero) (defScope s_step_jzero) .none kV34 dc34 pm34 an34 cd34 ct34), sl34⟩) (c34 : PySem.W.codeIn K cd34 "step_jzero" = true) (k34 : PySem.W.keepIn K (.ref f34) = true)
    (a35 : PySem.W.nsIn K mainGlobals "step_stop" = some (some (.ref f35))) (l35 : K.lookup f35 = some ⟨oc35, od35, .func (PySem.W.fnOf "step_stop" "step_stop" (defArgs s_step_stop) (defBody s_step_stop) (defScope s_step_stop) .none kV35 dc35 pm35 an35 cd35 ct35), sl35⟩) (c35 : PySem.W.codeIn K cd35 "step_stop" = true) (k35 : PySem.W.keepIn K (.ref f35) = true)
    (a36 : PySem.W.nsIn K mainGlobals "_law_state" = some (some (.ref f36))) (l36 : K.lookup f36 = some ⟨oc36, od36, .func (PySem.W.fnOf "_law_state" "_law_state" (defArgs s__law_state) (defBody s__law_state) (defScope s__law_state) .none kV36 dc36 pm36 an36 cd36 ct36), sl36⟩) (c36 : PySem.W.codeIn K cd36 "_law_state" = true) (k36 : PySem.W.keepIn K (.ref f36) = true)
    (a37 : PySem.W.nsIn K mainGlobals "_law_draw" = some (some (.ref f37))) (l37 : K.lookup f37 = some ⟨oc37, od37, .func (PySem.W.fnOf "_law_draw" "_law_draw" (defArgs s__law_draw) (defBody s__law_draw) (defScope s__law_draw) .none kV37 dc37 pm37 an37 cd37 ct37), sl37⟩) (c37 : PySem.W.codeIn K cd37 "_law_draw" = true) (k37 : PySem.W.keepIn K (.ref f37) = true)
    (a38 : PySem.W.nsIn K mainGlobals "_law_pick" = some (some (.ref f38))) (l38 : K.lookup f38 = some ⟨oc38, od38, .func (PySem.W.fnOf "_law_pick" "_law_pick" (defArgs s__law_pick) (defBody s__law_pick) (defScope s__law_pick) .none kV38 dc38 pm38 an38 cd38 ct38), sl38⟩) (c38 : PySem.W.codeIn K cd38 "_law_pick" = true) (k38 : PySem.W.keepIn K (.ref f38) = true)
    (a39 : PySem.W.nsIn K mainGlobals "_law_expr" = some (some (.ref f39))) (l39 : K.lookup f39 = some ⟨oc39, od39, .func (PySem.W.fnOf "_law_expr" "_law_expr" (defArgs s__law_expr) (defBody s__law_expr) (defScope s__law_expr) .none kV39 dc39 pm39 an39 cd39 ct39), sl39⟩) (c39 : PySem.W.codeIn K cd39 "_law_expr" = true) (k39 : PySem.W.keepIn K (.ref f39) = true)
    (a40 : PySem.W.nsIn K mainGlobals "_law_two" = some (some (.ref f40))) (l40 : K.lookup f40 = some ⟨oc40, od40, .func (PySem.W.fnOf "_law_two" "_law_two" (defArgs s__law_two) (defBody s__law_two) (defScope s__law_two) .none kV40 dc40 pm40 an40 cd40 ct40), sl40⟩) (c40 : PySem.W.codeIn K cd40 "_law_two" = true) (k40 : PySem.W.keepIn K (.ref f40) = true)
    (a41 : PySem.W.nsIn K mainGlobals "_law_value" = some (some (.ref f41))) (l41 : K.lookup f41 = some ⟨oc41, od41, .func (PySem.W.fnOf "_law_value" "_law_value" (defArgs s__law_value) (defBody s__law_value) (defScope s__law_value) .none kV41 dc41 pm41 an41 cd41 ct41), sl41⟩) (c41 : PySem.W.codeIn K cd41 "_law_value" = true) (k41 : PySem.W.keepIn K (.ref f41) = true)
    (a42 : PySem.W.nsIn K mainGlobals "_law_moved" = some (some (.ref f42))) (l42 : K.lookup f42 = some ⟨oc42, od42, .func (PySem.W.fnOf "_law_moved" "_law_moved" (defArgs s__law_moved) (defBody s__law_moved) (defScope s__law_moved) .none kV42 dc42 pm42 an42 cd42 ct42), sl42⟩) (c42 : PySem.W.codeIn K cd42 "_law_moved" = true) (k42 : PySem.W.keepIn K (.ref f42) = true)
    (a43 : PySem.W.nsIn K mainGlobals "_law_run" = some (some (.ref f43))) (l43 : K.lookup f43 = some ⟨oc43, od43, .func (PySem.W.fnOf "_law_run" "_law_run" (defArgs s__law_run) (defBody s__law_run) (defScope s__law_run) .none kV43 dc43 pm43 an43 cd43 ct43), sl43⟩) (c43 : PySem.W.codeIn K cd43 "_law_run" = true) (k43 : PySem.W.keepIn K (.ref f43) = true)
    (a44 : PySem.W.nsIn K mainGlobals "law" = some (some (.ref f44))) (l44 : K.lookup f44 = some ⟨oc44, od44, .func (PySem.W.fnOf "law" "law" (defArgs s_law) (defBody s_law) (defScope s_law) .none kV44 dc44 pm44 an44 cd44 ct44), sl44⟩) (c44 : PySem.W.codeIn K cd44 "law" = true) (k44 : PySem.W.keepIn K (.ref f44) = true)
    (aC_Code : PySem.W.nsIn K mainGlobals "Code" = some (some (.ref C_Code))) (pg_Code : PySem.W.plainGet K C_Code Str.empty = true) (hd_Code : PySem.W.hasDictIn K C_Code = true) (po_Code : PySem.W.plainOver K C_Code = true) (sa_Code : PySem.W.findIn K (.ref C_Code) "__setattr__" = some (some (.builtin "object.__setattr__"))) (mk_Code : PySem.W.makesIn K C_Code = true) (kc_Code : PySem.W.keepIn K (.ref C_Code) = true)
    (na_Code_takes : PySem.W.findIn K (.ref C_Code) "takes" = some none)
    (na_Code_places : PySem.W.findIn K (.ref C_Code) "places" = some none)
    (na_Code_rows : PySem.W.findIn K (.ref C_Code) "rows" = some none)
    (a_Code___init__ : PySem.W.findIn K (.ref C_Code) "__init__" = some (some (.ref f_Code___init__))) (i_Code___init__ : PySem.W.isFn K (.ref f_Code___init__) = true) (l_Code___init__ : K.lookup f_Code___init__ = some ⟨oc_Code___init__, od_Code___init__, .func (PySem.W.fnOf "__init__" "Code.__init__" (defArgs s_Code___init__) (defBody s_Code___init__) (defScope s_Code___init__) .none kV_Code___init__ dc_Code___init__ pm_Code___init__ an_Code___init__ cd_Code___init__ ct_Code___init__), sl_Code___init__⟩) (c_Code___init__ : PySem.W.codeIn K cd_Code___init__ "Code.__init__" = true) (k_Code___init__ : PySem.W.keepIn K (.ref f_Code___init__) = true)
    (a_Code_new_place : PySem.W.findIn K (.ref C_Code) "new_place" = some (some (.ref f_Code_new_place))) (i_Code_new_place : PySem.W.isFn K (.ref f_Code_new_place) = true) (l_Code_new_place : K.lookup f_Code_new_place = some ⟨oc_Code_new_place, od_Code_new_place, .func (PySem.W.fnOf "new_place" "Code.new_place" (defArgs s_Code_new_place) (defBody s_Code_new_place) (defScope s_Code_new_place) .none kV_Code_new_place dc_Code_new_place pm_Code_new_place an_Code_new_place cd_Code_new_place ct_Code_new_place), sl_Code_new_place⟩) (c_Code_new_place : PySem.W.codeIn K cd_Code_new_place "Code.new_place" = true) (k_Code_new_place : PySem.W.keepIn K (.ref f_Code_new_place) = true)
    (a_Code_place_of : PySem.W.findIn K (.ref C_Code) "place_of" = some (some (.ref f_Code_place_of))) (i_Code_place_of : PySem.W.isFn K (.ref f_Code_place_of) = true) (l_Code_place_of : K.lookup f_Code_place_of = some ⟨oc_Code_place_of, od_Code_place_of, .func (PySem.W.fnOf "place_of" "Code.place_of" (defArgs s_Code_place_of) (defBody s_Code_place_of) (defScope s_Code_place_of) .none kV_Code_place_of dc_Code_place_of pm_Code_place_of an_Code_place_of cd_Code_place_of ct_Code_place_of), sl_Code_place_of⟩) (c_Code_place_of : PySem.W.codeIn K cd_Code_place_of "Code.place_of" = true) (k_Code_place_of : PySem.W.keepIn K (.ref f_Code_place_of) = true)
    (a_Code_here : PySem.W.findIn K (.ref C_Code) "here" = some (some (.ref f_Code_here))) (i_Code_here : PySem.W.isFn K (.ref f_Code_here) = true) (l_Code_here : K.lookup f_Code_here = some ⟨oc_Code_here, od_Code_here, .func (PySem.W.fnOf "here" "Code.here" (defArgs s_Code_here) (defBody s_Code_here) (defScope s_Code_here) .none kV_Code_here dc_Code_here pm_Code_here an_Code_here cd_Code_here ct_Code_here), sl_Code_here⟩) (c_Code_here : PySem.W.codeIn K cd_Code_here "Code.here" = true) (k_Code_here : PySem.W.keepIn K (.ref f_Code_here) = true)
    (a_Code_emit : PySem.W.findIn K (.ref C_Code) "emit" = some (some (.ref f_Code_emit))) (i_Code_emit : PySem.W.isFn K (.ref f_Code_emit) = true) (l_Code_emit : K.lookup f_Code_emit = some ⟨oc_Code_emit, od_Code_emit, .func (PySem.W.fnOf "emit" "Code.emit" (defArgs s_Code_emit) (defBody s_Code_emit) (defScope s_Code_emit) .none kV_Code_emit dc_Code_emit pm_Code_emit an_Code_emit cd_Code_emit ct_Code_emit), sl_Code_emit⟩) (c_Code_emit : PySem.W.codeIn K cd_Code_emit "Code.emit" = true) (k_Code_emit : PySem.W.keepIn K (.ref f_Code_emit) = true)
    (a_Code_leave : PySem.W.findIn K (.ref C_Code) "leave" = some (some (.ref f_Code_leave))) (i_Code_leave : PySem.W.isFn K (.ref f_Code_leave) = true) (l_Code_leave : K.lookup f_Code_leave = some ⟨oc_Code_leave, od_Code_leave, .func (PySem.W.fnOf "leave" "Code.leave" (defArgs s_Code_leave) (defBody s_Code_leave) (defScope s_Code_leave) .none kV_Code_leave dc_Code_leave pm_Code_leave an_Code_leave cd_Code_leave ct_Code_leave), sl_Code_leave⟩) (c_Code_leave : PySem.W.codeIn K cd_Code_leave "Code.leave" = true) (k_Code_leave : PySem.W.keepIn K (.ref f_Code_leave) = true)
    (a_Code_fill : PySem.W.findIn K (.ref C_Code) "fill" = some (some (.ref f_Code_fill))) (i_Code_fill : PySem.W.isFn K (.ref f_Code_fill) = true) (l_Code_fill : K.lookup f_Code_fill = some ⟨oc_Code_fill, od_Code_fill, .func (PySem.W.fnOf "fill" "Code.fill" (defArgs s_Code_fill) (defBody s_Code_fill) (defScope s_Code_fill) .none kV_Code_fill dc_Code_fill pm_Code_fill an_Code_fill cd_Code_fill ct_Code_fill), sl_Code_fill⟩) (c_Code_fill : PySem.W.codeIn K cd_Code_fill "Code.fill" = true) (k_Code_fill : PySem.W.keepIn K (.ref f_Code_fill) = true)
    (a_Code_jump_here : PySem.W.findIn K (.ref C_Code) "jump_here" = some (some (.ref f_Code_jump_here))) (i_Code_jump_here : PySem.W.isFn K (.ref f_Code_jump_here) = true) (l_Code_jump_here : K.lookup f_Code_jump_here = some ⟨oc_Code_jump_here, od_Code_jump_here, .func (PySem.W.fnOf "jump_here" "Code.jump_here" (defArgs s_Code_jump_here) (defBody s_Code_jump_here) (defScope s_Code_jump_here) .none kV_Code_jump_here dc_Code_jump_here pm_Code_jump_here an_Code_jump_here cd_Code_jump_here ct_Code_jump_here), sl_Code_jump_here⟩) (c_Code_jump_here : PySem.W.codeIn K cd_Code_jump_here "Code.jump_here" = true) (k_Code_jump_here : PySem.W.keepIn K (.ref f_Code_jump_here) = true)
    (aC_Workspace : PySem.W.nsIn K mainGlobals "Workspace" = some (some (.ref C_Workspace))) (pg_Workspace : PySem.W.plainGet K C_Workspace Str.empty = true) (hd_Workspace : PySem.W.hasDictIn K C_Workspace = true) (po_Workspace : PySem.W.plainOver K C_Workspace = true) (sa_Workspace : PySem.W.findIn K (.ref C_Workspace) "__setattr__" = some (some (.builtin "object.__setattr__"))) (mk_Workspace : PySem.W.makesIn K C_Workspace = true) (kc_Workspace : PySem.W.keepIn K (.ref C_Workspace) = true)
    (na_Workspace_number : PySem.W.findIn K (.ref C_Workspace) "number" = some none)
    (na_Workspace_parent : PySem.W.findIn K (.ref C_Workspace) "parent" = some none)
    (na_Workspace_takes : PySem.W.findIn K (.ref C_Workspace) "takes" = some none)
    (na_Workspace_gives : PySem.W.findIn K (.ref C_Workspace) "gives" = some none)
    (na_Workspace_code : PySem.W.findIn K (.ref C_Workspace) "code" = some none)
    (na_Workspace_cells : PySem.W.findIn K (.ref C_Workspace) "cells" = some none)
    (na_Workspace_stack : PySem.W.findIn K (.ref C_Workspace) "stack" = some none)
    (na_Workspace_at : PySem.W.findIn K (.ref C_Workspace) "at" = some none)
    (na_Workspace_state : PySem.W.findIn K (.ref C_Workspace) "state" = some none)
    (a_Workspace___init__ : PySem.W.findIn K (.ref C_Workspace) "__init__" = some (some (.ref f_Workspace___init__))) (i_Workspace___init__ : PySem.W.isFn K (.ref f_Workspace___init__) = true) (l_Workspace___init__ : K.lookup f_Workspace___init__ = some ⟨oc_Workspace___init__, od_Workspace___init__, .func (PySem.W.fnOf "__init__" "Workspace.__init__" (defArgs s_Workspace___init__) (defBody s_Workspace___init__) (defScope s_Workspace___init__) .none kV_Workspace___init__ dc_Workspace___init__ pm_Workspace___init__ an_Workspace___init__ cd_Workspace___init__ ct_Workspace___init__), sl_Workspace___init__⟩) (c_Workspace___init__ : PySem.W.codeIn K cd_Workspace___init__ "Workspace.__init__" = true) (k_Workspace___init__ : PySem.W.keepIn K (.ref f_Workspace___init__) = true)
    (a_Workspace_cell : PySem.W.findIn K (.ref C_Workspace) "cell" = some (some (.ref f_Workspace_cell))) (i_Workspace_cell : PySem.W.isFn K (.ref f_Workspace_cell) = true) (l_Workspace_cell : K.lookup f_Workspace_cell = some ⟨oc_Workspace_cell, od_Workspace_cell, .func (PySem.W.fnOf "cell" "Workspace.cell" (defArgs s_Workspace_cell) (defBody s_Workspace_cell) (defScope s_Workspace_cell) .none kV_Workspace_cell dc_Workspace_cell pm_Workspace_cell an_Workspace_cell cd_Workspace_cell ct_Workspace_cell), sl_Workspace_cell⟩) (c_Workspace_cell : PySem.W.codeIn K cd_Workspace_cell "Workspace.cell" = true) (k_Workspace_cell : PySem.W.keepIn K (.ref f_Workspace_cell) = true)
    (a_Workspace_store : PySem.W.findIn K (.ref C_Workspace) "store" = some (some (.ref f_Workspace_store))) (i_Workspace_store : PySem.W.isFn K (.ref f_Workspace_store) = true) (l_Workspace_store : K.lookup f_Workspace_store = some ⟨oc_Workspace_store, od_Workspace_store, .func (PySem.W.fnOf "store" "Workspace.store" (defArgs s_Workspace_store) (defBody s_Workspace_store) (defScope s_Workspace_store) .none kV_Workspace_store dc_Workspace_store pm_Workspace_store an_Workspace_store cd_Workspace_store ct_Workspace_store), sl_Workspace_store⟩) (c_Workspace_store : PySem.W.codeIn K cd_Workspace_store "Workspace.store" = true) (k_Workspace_store : PySem.W.keepIn K (.ref f_Workspace_store) = true)
    (a_Workspace_advance : PySem.W.findIn K (.ref C_Workspace) "advance" = some (some (.ref f_Workspace_advance))) (i_Workspace_advance : PySem.W.isFn K (.ref f_Workspace_advance) = true) (l_Workspace_advance : K.lookup f_Workspace_advance = some ⟨oc_Workspace_advance, od_Workspace_advance, .func (PySem.W.fnOf "advance" "Workspace.advance" (defArgs s_Workspace_advance) (defBody s_Workspace_advance) (defScope s_Workspace_advance) .none kV_Workspace_advance dc_Workspace_advance pm_Workspace_advance an_Workspace_advance cd_Workspace_advance ct_Workspace_advance), sl_Workspace_advance⟩) (c_Workspace_advance : PySem.W.codeIn K cd_Workspace_advance "Workspace.advance" = true) (k_Workspace_advance : PySem.W.keepIn K (.ref f_Workspace_advance) = true)
    (a_Workspace_step : PySem.W.findIn K (.ref C_Workspace) "step" = some (some (.ref f_Workspace_step))) (i_Workspace_step : PySem.W.isFn K (.ref f_Workspace_step) = true) (l_Workspace_step : K.lookup f_Workspace_step = some ⟨oc_Workspace_step, od_Workspace_step, .func (PySem.W.fnOf "step" "Workspace.step" (defArgs s_Workspace_step) (defBody s_Workspace_step) (defScope s_Workspace_step) .none kV_Workspace_step dc_Workspace_step pm_Workspace_step an_Workspace_step cd_Workspace_step ct_Workspace_step), sl_Workspace_step⟩) (c_Workspace_step : PySem.W.codeIn K cd_Workspace_step "Workspace.step" = true) (k_Workspace_step : PySem.W.keepIn K (.ref f_Workspace_step) = true)
    (z_n_len : PySem.W.nsIn K mainGlobals "len" = some none) (z_n_int : PySem.W.nsIn K mainGlobals "int" = some none) (z_n_abs : PySem.W.nsIn K mainGlobals "abs" = some none) (z_n_range : PySem.W.nsIn K mainGlobals "range" = some none) (z_n_list : PySem.W.nsIn K mainGlobals "list" = some none) (z_n_tuple : PySem.W.nsIn K mainGlobals "tuple" = some none) (z_n_dict : PySem.W.nsIn K mainGlobals "dict" = some none) (z_n_isinstance : PySem.W.nsIn K mainGlobals "isinstance" = some none) {t_c_WORDS : PySem.Tok} (z_c_WORDS : PySem.W.nsIn K mainGlobals "WORDS" = some (some (.int 65536 t_c_WORDS))) {a_ADDED : Addr} {es_ADDED : Array DictEntry} {n_ADDED : Nat} (z_ADDED : PySem.W.nsIn K mainGlobals "ADDED" = some (some (.ref a_ADDED))) (zl_ADDED : K.lookup a_ADDED = some ⟨.type "dict", none, .dict es_ADDED n_ADDED, #[]⟩) (zy_ADDED : PySem.W.KeysLit w.params es_ADDED.toList) (z0_ADDED : PySem.W.nsIn K a_ADDED "set" = some (some (.ref f7))) {a_STEPS : Addr} {es_STEPS : Array DictEntry} {n_STEPS : Nat} (z_STEPS : PySem.W.nsIn K mainGlobals "STEPS" = some (some (.ref a_STEPS))) (zl_STEPS : K.lookup a_STEPS = some ⟨.type "dict", none, .dict es_STEPS n_STEPS, #[]⟩) (zy_STEPS : PySem.W.KeysLit w.params es_STEPS.toList) (zw_STEPS : (a_STEPS == sysModules) = false) (z0_STEPS : PySem.W.nsIn K a_STEPS "push" = some (some (.ref f23))) (z1_STEPS : PySem.W.nsIn K a_STEPS "load" = some (some (.ref f24))) (z2_STEPS : PySem.W.nsIn K a_STEPS "store" = some (some (.ref f25))) (z3_STEPS : PySem.W.nsIn K a_STEPS "loadx" = some (some (.ref f26))) (z4_STEPS : PySem.W.nsIn K a_STEPS "storex" = some (some (.ref f27))) (z5_STEPS : PySem.W.nsIn K a_STEPS "check" = some (some (.ref f28))) (z6_STEPS : PySem.W.nsIn K a_STEPS "neg" = some (some (.ref f30))) (z7_STEPS : PySem.W.nsIn K a_STEPS "not" = some (some (.ref f30))) (z8_STEPS : PySem.W.nsIn K a_STEPS "calc" = some (some (.ref f31))) (z9_STEPS : PySem.W.nsIn K a_STEPS "jump" = some (some (.ref f33))) (z10_STEPS : PySem.W.nsIn K a_STEPS "jzero" = some (some (.ref f34))) (z11_STEPS : PySem.W.nsIn K a_STEPS "stop" = some (some (.ref f35))) (z12_STEPS : PySem.W.nsIn K a_STEPS "give" = some none) (z13_STEPS : PySem.W.nsIn K a_STEPS "take" = some none) (z14_STEPS : PySem.W.nsIn K a_STEPS "either" = some none) (z15_STEPS : PySem.W.nsIn K a_STEPS "fork" = some none) (z16_STEPS : PySem.W.nsIn K a_STEPS "end" = some none) :
    ∃ fd : FuncData, (∀ (s : Shared) (v : Value), BindsTo s fd ⟨[v], []⟩ [("script", v)]) ∧ ∀ base : Heap, K.In base → base.Ns mainGlobals mg → FnOk l.prog w K mg base CX0 60 fa fd ["script"] (sp_law K) := by
  have e := hfa.symm.trans (PySem.W.mg_of X G a44)
  cases e
  have FL := fun_mk (st := s_law) l44 c44 k44
  have D_compile_thread : Dn K mg "compile_thread" s_compile_thread p_compile_thread := dn_mk X G a0 l0 c0 k0 (fun _ _ _ _ _ _ us hl => match us, hl with | [_], _ => rfl)
  have D_add_expression : Dn K mg "add_expression" s_add_expression p_add_expression := dn_mk X G a1 l1 c1 k1 (fun _ _ _ _ _ _ us hl => match us, hl with | [_, _], _ => rfl)
  have D_add_indexed : Dn K mg "add_indexed" s_add_indexed p_add_indexed := dn_mk X G a2 l2 c2 k2 (fun _ _ _ _ _ _ us hl => match us, hl with | [_, _, _], _ => rfl)
  have D_add_storing : Dn K mg "add_storing" s_add_storing p_add_storing := dn_mk X G a3 l3 c3 k3 (fun _ _ _ _ _ _ us hl => match us, hl with | [_, _], _ => rfl)
  have D_add_preparing : Dn K mg "add_preparing" s_add_preparing p_add_preparing := dn_mk X G a4 l4 c4 k4 (fun _ _ _ _ _ _ us hl => match us, hl with | [_, _], _ => rfl)
  have D_add_finishing : Dn K mg "add_finishing" s_add_finishing p_add_finishing := dn_mk X G a5 l5 c5 k5 (fun _ _ _ _ _ _ us hl => match us, hl with | [_, _, _], _ => rfl)
  have D_add_statement : Dn K mg "add_statement" s_add_statement p_add_statement := dn_mk X G a6 l6 c6 k6 (fun _ _ _ _ _ _ us hl => match us, hl with | [_, _], _ => rfl)
  have D_add_set : Dn K mg "add_set" s_add_set p_add_set := dn_mk X G a7 l7 c7 k7 (fun _ _ _ _ _ _ us hl => match us, hl with | [_, _], _ => rfl)
  have D_add_give : Dn K mg "add_give" s_add_give p_add_give := dn_mk X G a8 l8 c8 k8 (fun _ _ _ _ _ _ us hl => match us, hl with | [_, _], _ => rfl)
  have D_add_take : Dn K mg "add_take" s_add_take p_add_take := dn_mk X G a9 l9 c9 k9 (fun _ _ _ _ _ _ us hl => match us, hl with | [_, _], _ => rfl)
  have D_add_fork : Dn K mg "add_fork" s_add_fork p_add_fork := dn_mk X G a10 l10 c10 k10 (fun _ _ _ _ _ _ us hl => match us, hl with | [_, _], _ => rfl)
  have D_add_seq : Dn K mg "add_seq" s_add_seq p_add_seq := dn_mk X G a11 l11 c11 k11 (fun _ _ _ _ _ _ us hl => match us, hl with | [_, _], _ => rfl)
  have D_add_if : Dn K mg "add_if" s_add_if p_add_if := dn_mk X G a12 l12 c12 k12 (fun _ _ _ _ _ _ us hl => match us, hl with | [_, _], _ => rfl)
  have D_add_repeat : Dn K mg "add_repeat" s_add_repeat p_add_repeat := dn_mk X G a13 l13 c13 k13 (fun _ _ _ _ _ _ us hl => match us, hl with | [_, _], _ => rfl)
  have D_add_alt : Dn K mg "add_alt" s_add_alt p_add_alt := dn_mk X G a14 l14 c14 k14 (fun _ _ _ _ _ _ us hl => match us, hl with | [_, _], _ => rfl)
  have D_add_guard : Dn K mg "add_guard" s_add_guard p_add_guard := dn_mk X G a15 l15 c15 k15 (fun _ _ _ _ _ _ us hl => match us, hl with | [_, _], _ => rfl)
  have D_add_guarded : Dn K mg "add_guarded" s_add_guarded p_add_guarded := dn_mk X G a16 l16 c16 k16 (fun _ _ _ _ _ _ us hl => match us, hl with | [_, _, _], _ => rfl)
  have D_copied : Dn K mg "copied" s_copied p_copied := dn_mk X G a17 l17 c17 k17 (fun _ _ _ _ _ _ us hl => match us, hl with | [_], _ => rfl)
  have D_operate : Dn K mg "operate" s_operate p_operate := dn_mk X G a18 l18 c18 k18 (fun _ _ _ _ _ _ us hl => match us, hl with | [_, _], _ => rfl)
  have D_calculate : Dn K mg "calculate" s_calculate p_calculate := dn_mk X G a19 l19 c19 k19 (fun _ _ _ _ _ _ us hl => match us, hl with | [_, _, _], _ => rfl)
  have D_divide : Dn K mg "divide" s_divide p_divide := dn_mk X G a20 l20 c20 k20 (fun _ _ _ _ _ _ us hl => match us, hl with | [_, _, _], _ => rfl)
  have D_holds : Dn K mg "holds" s_holds p_holds := dn_mk X G a21 l21 c21 k21 (fun _ _ _ _ _ _ us hl => match us, hl with | [_, _, _], _ => rfl)
  have D_bit : Dn K mg "bit" s_bit p_bit := dn_mk X G a22 l22 c22 k22 (fun _ _ _ _ _ _ us hl => match us, hl with | [_], _ => rfl)
  have D_step_push : Dn K mg "step_push" s_step_push p_step_push := dn_mk X G a23 l23 c23 k23 (fun _ _ _ _ _ _ us hl => match us, hl with | [_, _], _ => rfl)
  have D_step_load : Dn K mg "step_load" s_step_load p_step_load := dn_mk X G a24 l24 c24 k24 (fun _ _ _ _ _ _ us hl => match us, hl with | [_, _], _ => rfl)
  have D_step_store : Dn K mg "step_store" s_step_store p_step_store := dn_mk X G a25 l25 c25 k25 (fun _ _ _ _ _ _ us hl => match us, hl with | [_, _], _ => rfl)
  have D_step_loadx : Dn K mg "step_loadx" s_step_loadx p_step_loadx := dn_mk X G a26 l26 c26 k26 (fun _ _ _ _ _ _ us hl => match us, hl with | [_, _], _ => rfl)
  have D_step_storex : Dn K mg "step_storex" s_step_storex p_step_storex := dn_mk X G a27 l27 c27 k27 (fun _ _ _ _ _ _ us hl => match us, hl with | [_, _], _ => rfl)
  have D_step_check : Dn K mg "step_check" s_step_check p_step_check := dn_mk X G a28 l28 c28 k28 (fun _ _ _ _ _ _ us hl => match us, hl with | [_, _], _ => rfl)
  have D_index_fits : Dn K mg "index_fits" s_index_fits p_index_fits := dn_mk X G a29 l29 c29 k29 (fun _ _ _ _ _ _ us hl => match us, hl with | [_, _], _ => rfl)
  have D_step_operation : Dn K mg "step_operation" s_step_operation p_step_operation := dn_mk X G a30 l30 c30 k30 (fun _ _ _ _ _ _ us hl => match us, hl with | [_, _], _ => rfl)
  have D_step_calc : Dn K mg "step_calc" s_step_calc p_step_calc := dn_mk X G a31 l31 c31 k31 (fun _ _ _ _ _ _ us hl => match us, hl with | [_, _], _ => rfl)
  have D_push_value : Dn K mg "push_value" s_push_value p_push_value := dn_mk X G a32 l32 c32 k32 (fun _ _ _ _ _ _ us hl => match us, hl with | [_, _], _ => rfl)
  have D_step_jump : Dn K mg "step_jump" s_step_jump p_step_jump := dn_mk X G a33 l33 c33 k33 (fun _ _ _ _ _ _ us hl => match us, hl with | [_, _], _ => rfl)
  have D_step_jzero : Dn K mg "step_jzero" s_step_jzero p_step_jzero := dn_mk X G a34 l34 c34 k34 (fun _ _ _ _ _ _ us hl => match us, hl with | [_, _], _ => rfl)
  have D_step_stop : Dn K mg "step_stop" s_step_stop p_step_stop := dn_mk X G a35 l35 c35 k35 (fun _ _ _ _ _ _ us hl => match us, hl with | [_, _], _ => rfl)
  have D__law_state : Dn K mg "_law_state" s__law_state p__law_state := dn_mk X G a36 l36 c36 k36 (fun _ _ _ _ _ _ us hl => match us, hl with | [_], _ => rfl)
  have D__law_draw : Dn K mg "_law_draw" s__law_draw p__law_draw := dn_mk X G a37 l37 c37 k37 (fun _ _ _ _ _ _ us hl => match us, hl with | [_, _], _ => rfl)
  have D__law_pick : Dn K mg "_law_pick" s__law_pick p__law_pick := dn_mk X G a38 l38 c38 k38 (fun _ _ _ _ _ _ us hl => match us, hl with | [_, _], _ => rfl)
  have D__law_expr : Dn K mg "_law_expr" s__law_expr p__law_expr := dn_mk X G a39 l39 c39 k39 (fun _ _ _ _ _ _ us hl => match us, hl with | [_, _, _], _ => rfl)
  have D__law_two : Dn K mg "_law_two" s__law_two p__law_two := dn_mk X G a40 l40 c40 k40 (fun _ _ _ _ _ _ us hl => match us, hl with | [_, _, _], _ => rfl)
  have D__law_value : Dn K mg "_law_value" s__law_value p__law_value := dn_mk X G a41 l41 c41 k41 (fun _ _ _ _ _ _ us hl => match us, hl with | [_, _], _ => rfl)
  have D__law_moved : Dn K mg "_law_moved" s__law_moved p__law_moved := dn_mk X G a42 l42 c42 k42 (fun _ _ _ _ _ _ us hl => match us, hl with | [_], _ => rfl)
  have D__law_run : Dn K mg "_law_run" s__law_run p__law_run := dn_mk X G a43 l43 c43 k43 (fun _ _ _ _ _ _ us hl => match us, hl with | [_], _ => rfl)
  have CL_Code : Cls K C_Code := ⟨pg_Code, hd_Code, po_Code, sa_Code⟩
  have F_Code___init__ := fun_mk (st := s_Code___init__) l_Code___init__ c_Code___init__ k_Code___init__
  have b_Code___init__ := F_Code___init__.binds (ps := p_Code___init__) fun _ _ _ _ _ _ us hl => match us, hl with | [_, _], _ => rfl
  have D_Code___init__ : DnI K mg "Code" "Code.__init__" C_Code s_Code___init__ p_Code___init__ := ⟨_, _, ⟨mk_Code, a_Code___init__, i_Code___init__, kc_Code⟩, F_Code___init__, PySem.W.mg_of X G aC_Code, b_Code___init__⟩
  have F_Code_new_place := fun_mk (st := s_Code_new_place) l_Code_new_place c_Code_new_place k_Code_new_place
  have b_Code_new_place := F_Code_new_place.binds (ps := p_Code_new_place) fun _ _ _ _ _ _ us hl => match us, hl with | [_], _ => rfl
  have D_Code_new_place : DnM K C_Code "new_place" "Code.new_place" s_Code_new_place p_Code_new_place := ⟨_, _, CL_Code, ⟨a_Code_new_place, i_Code_new_place, k_Code_new_place⟩, F_Code_new_place, b_Code_new_place⟩
  have F_Code_place_of := fun_mk (st := s_Code_place_of) l_Code_place_of c_Code_place_of k_Code_place_of
  have b_Code_place_of := F_Code_place_of.binds (ps := p_Code_place_of) fun _ _ _ _ _ _ us hl => match us, hl with | [_, _], _ => rfl
  have D_Code_place_of : DnM K C_Code "place_of" "Code.place_of" s_Code_place_of p_Code_place_of := ⟨_, _, CL_Code, ⟨a_Code_place_of, i_Code_place_of, k_Code_place_of⟩, F_Code_place_of, b_Code_place_of⟩
  have F_Code_here := fun_mk (st := s_Code_here) l_Code_here c_Code_here k_Code_here
  have b_Code_here := F_Code_here.binds (ps := p_Code_here) fun _ _ _ _ _ _ us hl => match us, hl with | [_], _ => rfl
  have D_Code_here : DnM K C_Code "here" "Code.here" s_Code_here p_Code_here := ⟨_, _, CL_Code, ⟨a_Code_here, i_Code_here, k_Code_here⟩, F_Code_here, b_Code_here⟩
  have F_Code_emit := fun_mk (st := s_Code_emit) l_Code_emit c_Code_emit k_Code_emit
  have b_Code_emit := F_Code_emit.binds (ps := p_Code_emit) fun _ _ _ _ _ _ us hl => match us, hl with | [_, _], _ => rfl
  have D_Code_emit : DnM K C_Code "emit" "Code.emit" s_Code_emit p_Code_emit := ⟨_, _, CL_Code, ⟨a_Code_emit, i_Code_emit, k_Code_emit⟩, F_Code_emit, b_Code_emit⟩
  have F_Code_leave := fun_mk (st := s_Code_leave) l_Code_leave c_Code_leave k_Code_leave
  have b_Code_leave := F_Code_leave.binds (ps := p_Code_leave) fun _ _ _ _ _ _ us hl => match us, hl with | [_], _ => rfl
  have D_Code_leave : DnM K C_Code "leave" "Code.leave" s_Code_leave p_Code_leave := ⟨_, _, CL_Code, ⟨a_Code_leave, i_Code_leave, k_Code_leave⟩, F_Code_leave, b_Code_leave⟩
  have F_Code_fill := fun_mk (st := s_Code_fill) l_Code_fill c_Code_fill k_Code_fill
  have b_Code_fill := F_Code_fill.binds (ps := p_Code_fill) fun _ _ _ _ _ _ us hl => match us, hl with | [_, _, _], _ => rfl
  have D_Code_fill : DnM K C_Code "fill" "Code.fill" s_Code_fill p_Code_fill := ⟨_, _, CL_Code, ⟨a_Code_fill, i_Code_fill, k_Code_fill⟩, F_Code_fill, b_Code_fill⟩
  have F_Code_jump_here := fun_mk (st := s_Code_jump_here) l_Code_jump_here c_Code_jump_here k_Code_jump_here
  have b_Code_jump_here := F_Code_jump_here.binds (ps := p_Code_jump_here) fun _ _ _ _ _ _ us hl => match us, hl with | [_, _, _], _ => rfl
  have D_Code_jump_here : DnM K C_Code "jump_here" "Code.jump_here" s_Code_jump_here p_Code_jump_here := ⟨_, _, CL_Code, ⟨a_Code_jump_here, i_Code_jump_here, k_Code_jump_here⟩, F_Code_jump_here, b_Code_jump_here⟩
  have X_Code := (⟨CL_Code, na_Code_takes, na_Code_places, na_Code_rows⟩ : CdK K C_Code)
  have CL_Workspace : Cls K C_Workspace := ⟨pg_Workspace, hd_Workspace, po_Workspace, sa_Workspace⟩
  have F_Workspace___init__ := fun_mk (st := s_Workspace___init__) l_Workspace___init__ c_Workspace___init__ k_Workspace___init__
  have b_Workspace___init__ := F_Workspace___init__.binds (ps := p_Workspace___init__) fun _ _ _ _ _ _ us hl => match us, hl with | [_, _, _, _], _ => rfl
  have D_Workspace___init__ : DnI K mg "Workspace" "Workspace.__init__" C_Workspace s_Workspace___init__ p_Workspace___init__ := ⟨_, _, ⟨mk_Workspace, a_Workspace___init__, i_Workspace___init__, kc_Workspace⟩, F_Workspace___init__, PySem.W.mg_of X G aC_Workspace, b_Workspace___init__⟩
  have F_Workspace_cell := fun_mk (st := s_Workspace_cell) l_Workspace_cell c_Workspace_cell k_Workspace_cell
  have b_Workspace_cell := F_Workspace_cell.binds (ps := p_Workspace_cell) fun _ _ _ _ _ _ us hl => match us, hl with | [_, _], _ => rfl
  have D_Workspace_cell : DnM K C_Workspace "cell" "Workspace.cell" s_Workspace_cell p_Workspace_cell := ⟨_, _, CL_Workspace, ⟨a_Workspace_cell, i_Workspace_cell, k_Workspace_cell⟩, F_Workspace_cell, b_Workspace_cell⟩
  have F_Workspace_store := fun_mk (st := s_Workspace_store) l_Workspace_store c_Workspace_store k_Workspace_store
  have b_Workspace_store := F_Workspace_store.binds (ps := p_Workspace_store) fun _ _ _ _ _ _ us hl => match us, hl with | [_, _, _], _ => rfl
  have D_Workspace_store : DnM K C_Workspace "store" "Workspace.store" s_Workspace_store p_Workspace_store := ⟨_, _, CL_Workspace, ⟨a_Workspace_store, i_Workspace_store, k_Workspace_store⟩, F_Workspace_store, b_Workspace_store⟩
  have F_Workspace_advance := fun_mk (st := s_Workspace_advance) l_Workspace_advance c_Workspace_advance k_Workspace_advance
  have b_Workspace_advance := F_Workspace_advance.binds (ps := p_Workspace_advance) fun _ _ _ _ _ _ us hl => match us, hl with | [_], _ => rfl
  have D_Workspace_advance : DnM K C_Workspace "advance" "Workspace.advance" s_Workspace_advance p_Workspace_advance := ⟨_, _, CL_Workspace, ⟨a_Workspace_advance, i_Workspace_advance, k_Workspace_advance⟩, F_Workspace_advance, b_Workspace_advance⟩
  have F_Workspace_step := fun_mk (st := s_Workspace_step) l_Workspace_step c_Workspace_step k_Workspace_step
  have b_Workspace_step := F_Workspace_step.binds (ps := p_Workspace_step) fun _ _ _ _ _ _ us hl => match us, hl with | [_, _], _ => rfl
  have D_Workspace_step : DnM K C_Workspace "step" "Workspace.step" s_Workspace_step p_Workspace_step := ⟨_, _, CL_Workspace, ⟨a_Workspace_step, i_Workspace_step, k_Workspace_step⟩, F_Workspace_step, b_Workspace_step⟩
  have X_Workspace := (⟨CL_Workspace, na_Workspace_number, na_Workspace_parent, na_Workspace_takes, na_Workspace_gives, na_Workspace_code, na_Workspace_cells, na_Workspace_stack, na_Workspace_at, na_Workspace_state⟩ : WkK K C_Workspace)
  have FD_ADDED : Added K w mg := ⟨_, _, PySem.W.mg_of X G z_ADDED, ⟨_, _, _, zl_ADDED, zy_ADDED, z0_ADDED, rfl⟩, PySem.W.mg_of X G a7⟩
  have KD_STEPS : Steps K w mg := ⟨⟨_, _, PySem.W.mg_of X G z_STEPS, ⟨_, _, _, zl_STEPS, zy_STEPS, z0_STEPS, rfl⟩, PySem.W.mg_of X G a23, zw_STEPS, _, _, _, zl_STEPS, zy_STEPS, z0_STEPS, rfl⟩, ⟨_, _, PySem.W.mg_of X G z_STEPS, ⟨_, _, _, zl_STEPS, zy_STEPS, z1_STEPS, rfl⟩, PySem.W.mg_of X G a24, zw_STEPS, _, _, _, zl_STEPS, zy_STEPS, z1_STEPS, rfl⟩, ⟨_, _, PySem.W.mg_of X G z_STEPS, ⟨_, _, _, zl_STEPS, zy_STEPS, z2_STEPS, rfl⟩, PySem.W.mg_of X G a25, zw_STEPS, _, _, _, zl_STEPS, zy_STEPS, z2_STEPS, rfl⟩, ⟨_, _, PySem.W.mg_of X G z_STEPS, ⟨_, _, _, zl_STEPS, zy_STEPS, z3_STEPS, rfl⟩, PySem.W.mg_of X G a26, zw_STEPS, _, _, _, zl_STEPS, zy_STEPS, z3_STEPS, rfl⟩, ⟨_, _, PySem.W.mg_of X G z_STEPS, ⟨_, _, _, zl_STEPS, zy_STEPS, z4_STEPS, rfl⟩, PySem.W.mg_of X G a27, zw_STEPS, _, _, _, zl_STEPS, zy_STEPS, z4_STEPS, rfl⟩, ⟨_, _, PySem.W.mg_of X G z_STEPS, ⟨_, _, _, zl_STEPS, zy_STEPS, z5_STEPS, rfl⟩, PySem.W.mg_of X G a28, zw_STEPS, _, _, _, zl_STEPS, zy_STEPS, z5_STEPS, rfl⟩, ⟨_, _, PySem.W.mg_of X G z_STEPS, ⟨_, _, _, zl_STEPS, zy_STEPS, z6_STEPS, rfl⟩, PySem.W.mg_of X G a30, zw_STEPS, _, _, _, zl_STEPS, zy_STEPS, z6_STEPS, rfl⟩, ⟨_, _, PySem.W.mg_of X G z_STEPS, ⟨_, _, _, zl_STEPS, zy_STEPS, z7_STEPS, rfl⟩, PySem.W.mg_of X G a30, zw_STEPS, _, _, _, zl_STEPS, zy_STEPS, z7_STEPS, rfl⟩, ⟨_, _, PySem.W.mg_of X G z_STEPS, ⟨_, _, _, zl_STEPS, zy_STEPS, z8_STEPS, rfl⟩, PySem.W.mg_of X G a31, zw_STEPS, _, _, _, zl_STEPS, zy_STEPS, z8_STEPS, rfl⟩, ⟨_, _, PySem.W.mg_of X G z_STEPS, ⟨_, _, _, zl_STEPS, zy_STEPS, z9_STEPS, rfl⟩, PySem.W.mg_of X G a33, zw_STEPS, _, _, _, zl_STEPS, zy_STEPS, z9_STEPS, rfl⟩, ⟨_, _, PySem.W.mg_of X G z_STEPS, ⟨_, _, _, zl_STEPS, zy_STEPS, z10_STEPS, rfl⟩, PySem.W.mg_of X G a34, zw_STEPS, _, _, _, zl_STEPS, zy_STEPS, z10_STEPS, rfl⟩, ⟨_, _, PySem.W.mg_of X G z_STEPS, ⟨_, _, _, zl_STEPS, zy_STEPS, z11_STEPS, rfl⟩, PySem.W.mg_of X G a35, zw_STEPS, _, _, _, zl_STEPS, zy_STEPS, z11_STEPS, rfl⟩, ⟨_, PySem.W.mg_of X G z_STEPS, zw_STEPS, _, _, _, zl_STEPS, zy_STEPS, z12_STEPS, rfl⟩, ⟨_, PySem.W.mg_of X G z_STEPS, zw_STEPS, _, _, _, zl_STEPS, zy_STEPS, z13_STEPS, rfl⟩, ⟨_, PySem.W.mg_of X G z_STEPS, zw_STEPS, _, _, _, zl_STEPS, zy_STEPS, z14_STEPS, rfl⟩, ⟨_, PySem.W.mg_of X G z_STEPS, zw_STEPS, _, _, _, zl_STEPS, zy_STEPS, z15_STEPS, rfl⟩, ⟨_, PySem.W.mg_of X G z_STEPS, zw_STEPS, _, _, _, zl_STEPS, zy_STEPS, z16_STEPS, rfl⟩⟩
  have T : Glo K w mg := ⟨PySem.W.mg_none_of X G z_n_len, PySem.W.mg_none_of X G z_n_int, PySem.W.mg_none_of X G z_n_abs, PySem.W.mg_none_of X G z_n_range, PySem.W.mg_none_of X G z_n_list, PySem.W.mg_none_of X G z_n_tuple, PySem.W.mg_none_of X G z_n_dict, PySem.W.mg_none_of X G z_n_isinstance, ⟨_, PySem.W.mg_of X G z_c_WORDS⟩⟩
  refine ⟨PySem.W.fnOf "law" "law" (defArgs s_law) (defBody s_law) (defScope s_law) .none kV44 dc44 pm44 an44 cd44 ct44, fun s v => .of_eq rfl, fun base _ _ => ?_⟩
  exact build_law FL T D_compile_thread D_add_expression D_add_indexed D_add_storing D_add_preparing D_add_finishing D_add_statement D_add_set D_add_give D_add_take D_add_fork D_add_seq D_add_if D_add_repeat D_add_alt D_add_guard D_add_guarded D_copied D_operate D_calculate D_divide D_holds D_bit D_step_push D_step_load D_step_store D_step_loadx D_step_storex D_step_check D_index_fits D_step_operation D_step_calc D_push_value D_step_jump D_step_jzero D_step_stop D__law_state D__law_draw D__law_pick D__law_expr D__law_two D__law_value D__law_moved D__law_run D_Code___init__ D_Code_new_place D_Code_place_of D_Code_here D_Code_emit D_Code_leave D_Code_fill D_Code_jump_here D_Workspace___init__ D_Workspace_cell D_Workspace_store D_Workspace_advance D_Workspace_step X_Code X_Workspace FD_ADDED KD_STEPS
theorem walk {l : PySem.W.OpenLaw} {q : Program} {loose : List Str} {XP : (Str → Option Value) → Heap → Prop} {YP : World → Heap → Prop} {d : DefRec} {K : Params → PySem.W.Frag} (hn : l.most = some 63) (hdf : d.params.defaults = [])
    (hY : ∀ (w : World) (h : Heap), YP w h → (K w.params).In h)
    (F : ∀ (w : World) (mg : Str → Option Value) (fa : Addr) (h : Heap), (K w.params).In h → h.Ns mainGlobals mg → mg d.name = some (.ref fa) →
      ∃ fd : FuncData, (∀ (s : Shared) (u : Value), BindsTo s fd ⟨[u], []⟩ [("script", u)]) ∧ ∀ base : Heap, (K w.params).In base → base.Ns mainGlobals mg → FnOk l.prog w (K w.params) mg base CX0 60 fa fd ["script"] (sp_law (K w.params))) :
    PySem.W.WalkO q loose XP YP l.row.toRowW d [] (fun f vs => PySem.call f vs) :=
  L2.walk_of (n := 63) (k := 60) (x := "script") (CX := fun _ => CX0) (sp := fun w => sp_law (K w.params)) hn (by decide) hdf ⟨rfl, by decide, by decide⟩ hY F (fun _ _ a ns hl _ hS => ⟨a, ns, rfl, hS, hl, fun _ => rfl⟩) fun _ _ _ _ _ z => z
end Y
open PySem PySem.W PyProof.Rows
set_option maxRecDepth 100000 in
set_option maxHeartbeats 0 in
theorem PySem.Challenge.cw_placedanyhow_k36_code_of_expressions_holds : PySem.Challenge.rw_placedanyhow_k36_code_of_expressions.Holds := by
  w_on; o_law; k_head; (case hw => w_witness2)
  k_fill
  refine Y.walk (l := PySem.Challenge.rw_placedanyhow_k36_code_of_expressions) rfl rfl (fun w h Y => PySem.W.kIn_of Y) ?F
  case F =>
    intro w mg fa h KX G hmg
    refine' Y.all_mk KX G hmg ?a0 ?l0 ?c0 ?k0 ?a1 ?l1 ?c1 ?k1 ?a2 ?l2 ?c2 ?k2 ?a3 ?l3 ?c3 ?k3 ?a4 ?l4 ?c4 ?k4 ?a5 ?l5 ?c5 ?k5 ?a6 ?l6 ?c6 ?k6 ?a7 ?l7 ?c7 ?k7 ?a8 ?l8 ?c8 ?k8 ?a9 ?l9 ?c9 ?k9 ?a10 ?l10 ?c10 ?k10 ?a11 ?l11 ?c11 ?k11 ?a12 ?l12 ?c12 ?k12 ?a13 ?l13 ?c13 ?k13 ?a14 ?l14 ?c14 ?k14 ?a15 ?l15 ?c15 ?k15 ?a16 ?l16 ?c16 ?k16 ?a17 ?l17 ?c17 ?k17 ?a18 ?l18 ?c18 ?k18 ?a19 ?l19 ?c19 ?k19 ?a20 ?l20 ?c20 ?k20 ?a21 ?l21 ?c21 ?k21 ?a22 ?l22 ?c22 ?k22 ?a23 ?l23 ?c23 ?k23 ?a24 ?l24 ?c24 ?k24 ?a25 ?l25 ?c25 ?k25 ?a26 ?l26 ?c26 ?k26 ?a27 ?l27 ?c27 ?k27 ?a28 ?l28 ?c28 ?k28 ?a29 ?l29 ?c29 ?k29 ?a30 ?l30 ?c30 ?k30 ?a31 ?l31 ?c31 ?k31 ?a32 ?l32 ?c32 ?k32 ?a33 ?l33 ?c33 ?k33 ?a34 ?l34 ?c34 ?k34 ?a35 ?l35 ?c35 ?k35 ?a36 ?l36 ?c36 ?k36 ?a37 ?l37 ?c37 ?k37 ?a38 ?l38 ?c38 ?k38 ?a39 ?l39 ?c39 ?k39 ?a40 ?l40 ?c40 ?k40 ?a41 ?l41 ?c41 ?k41 ?a42 ?l42 ?c42 ?k42 ?a43 ?l43 ?c43 ?k43 ?a44 ?l44 ?c44 ?k44 ?aC_Code ?pg_Code ?hd_Code ?po_Code ?sa_Code ?mk_Code ?kc_Code ?na_Code_takes ?na_Code_places ?na_Code_rows ?a_Code___init__ ?i_Code___init__ ?l_Code___init__ ?c_Code___init__ ?k_Code___init__ ?a_Code_new_place ?i_Code_new_place ?l_Code_new_place ?c_Code_new_place ?k_Code_new_place ?a_Code_place_of ?i_Code_place_of ?l_Code_place_of ?c_Code_place_of ?k_Code_place_of ?a_Code_here ?i_Code_here ?l_Code_here ?c_Code_here ?k_Code_here ?a_Code_emit ?i_Code_emit ?l_Code_emit ?c_Code_emit ?k_Code_emit ?a_Code_leave ?i_Code_leave ?l_Code_leave ?c_Code_leave ?k_Code_leave ?a_Code_fill ?i_Code_fill ?l_Code_fill ?c_Code_fill ?k_Code_fill ?a_Code_jump_here ?i_Code_jump_here ?l_Code_jump_here ?c_Code_jump_here ?k_Code_jump_here ?aC_Workspace ?pg_Workspace ?hd_Workspace ?po_Workspace ?sa_Workspace ?mk_Workspace ?kc_Workspace ?na_Workspace_number ?na_Workspace_parent ?na_Workspace_takes ?na_Workspace_gives ?na_Workspace_code ?na_Workspace_cells ?na_Workspace_stack ?na_Workspace_at ?na_Workspace_state ?a_Workspace___init__ ?i_Workspace___init__ ?l_Workspace___init__ ?c_Workspace___init__ ?k_Workspace___init__ ?a_Workspace_cell ?i_Workspace_cell ?l_Workspace_cell ?c_Workspace_cell ?k_Workspace_cell ?a_Workspace_store ?i_Workspace_store ?l_Workspace_store ?c_Workspace_store ?k_Workspace_store ?a_Workspace_advance ?i_Workspace_advance ?l_Workspace_advance ?c_Workspace_advance ?k_Workspace_advance ?a_Workspace_step ?i_Workspace_step ?l_Workspace_step ?c_Workspace_step ?k_Workspace_step ?z_n_len ?z_n_int ?z_n_abs ?z_n_range ?z_n_list ?z_n_tuple ?z_n_dict ?z_n_isinstance ?z_c_WORDS ?z_ADDED ?zl_ADDED ?zy_ADDED ?z0_ADDED ?z_STEPS ?zl_STEPS ?zy_STEPS ?zw_STEPS ?z0_STEPS ?z1_STEPS ?z2_STEPS ?z3_STEPS ?z4_STEPS ?z5_STEPS ?z6_STEPS ?z7_STEPS ?z8_STEPS ?z9_STEPS ?z10_STEPS ?z11_STEPS ?z12_STEPS ?z13_STEPS ?z14_STEPS ?z15_STEPS ?z16_STEPS
    (case a0 => k_is); (case l0 => k_is); (case c0 => k_is); (case k0 => k_is)
    (case a1 => k_is); (case l1 => k_is); (case c1 => k_is); (case k1 => k_is)
    (case a2 => k_is); (case l2 => k_is); (case c2 => k_is); (case k2 => k_is)
    (case a3 => k_is); (case l3 => k_is); (case c3 => k_is); (case k3 => k_is)
    (case a4 => k_is); (case l4 => k_is); (case c4 => k_is); (case k4 => k_is)
    (case a5 => k_is); (case l5 => k_is); (case c5 => k_is); (case k5 => k_is)
    (case a6 => k_is); (case l6 => k_is); (case c6 => k_is); (case k6 => k_is)
    (case a7 => k_is); (case l7 => k_is); (case c7 => k_is); (case k7 => k_is)
    (case a8 => k_is); (case l8 => k_is); (case c8 => k_is); (case k8 => k_is)
    (case a9 => k_is); (case l9 => k_is); (case c9 => k_is); (case k9 => k_is)
    (case a10 => k_is); (case l10 => k_is); (case c10 => k_is); (case k10 => k_is)
    (case a11 => k_is); (case l11 => k_is); (case c11 => k_is); (case k11 => k_is)
    (case a12 => k_is); (case l12 => k_is); (case c12 => k_is); (case k12 => k_is)
    (case a13 => k_is); (case l13 => k_is); (case c13 => k_is); (case k13 => k_is)
    (case a14 => k_is); (case l14 => k_is); (case c14 => k_is); (case k14 => k_is)
    (case a15 => k_is); (case l15 => k_is); (case c15 => k_is); (case k15 => k_is)
    (case a16 => k_is); (case l16 => k_is); (case c16 => k_is); (case k16 => k_is)
    (case a17 => k_is); (case l17 => k_is); (case c17 => k_is); (case k17 => k_is)
    (case a18 => k_is); (case l18 => k_is); (case c18 => k_is); (case k18 => k_is)
    (case a19 => k_is); (case l19 => k_is); (case c19 => k_is); (case k19 => k_is)
    (case a20 => k_is); (case l20 => k_is); (case c20 => k_is); (case k20 => k_is)
    (case a21 => k_is); (case l21 => k_is); (case c21 => k_is); (case k21 => k_is)
    (case a22 => k_is); (case l22 => k_is); (case c22 => k_is); (case k22 => k_is)
    (case a23 => k_is); (case l23 => k_is); (case c23 => k_is); (case k23 => k_is)
    (case a24 => k_is); (case l24 => k_is); (case c24 => k_is); (case k24 => k_is)
    (case a25 => k_is); (case l25 => k_is); (case c25 => k_is); (case k25 => k_is)
    (case a26 => k_is); (case l26 => k_is); (case c26 => k_is); (case k26 => k_is)
    (case a27 => k_is); (case l27 => k_is); (case c27 => k_is); (case k27 => k_is)
    (case a28 => k_is); (case l28 => k_is); (case c28 => k_is); (case k28 => k_is)
    (case a29 => k_is); (case l29 => k_is); (case c29 => k_is); (case k29 => k_is)
    (case a30 => k_is); (case l30 => k_is); (case c30 => k_is); (case k30 => k_is)
    (case a31 => k_is); (case l31 => k_is); (case c31 => k_is); (case k31 => k_is)
    (case a32 => k_is); (case l32 => k_is); (case c32 => k_is); (case k32 => k_is)
    (case a33 => k_is); (case l33 => k_is); (case c33 => k_is); (case k33 => k_is)
    (case a34 => k_is); (case l34 => k_is); (case c34 => k_is); (case k34 => k_is)
    (case a35 => k_is); (case l35 => k_is); (case c35 => k_is); (case k35 => k_is)
    (case a36 => k_is); (case l36 => k_is); (case c36 => k_is); (case k36 => k_is)
    (case a37 => k_is); (case l37 => k_is); (case c37 => k_is); (case k37 => k_is)
    (case a38 => k_is); (case l38 => k_is); (case c38 => k_is); (case k38 => k_is)
    (case a39 => k_is); (case l39 => k_is); (case c39 => k_is); (case k39 => k_is)
    (case a40 => k_is); (case l40 => k_is); (case c40 => k_is); (case k40 => k_is)
    (case a41 => k_is); (case l41 => k_is); (case c41 => k_is); (case k41 => k_is)
    (case a42 => k_is); (case l42 => k_is); (case c42 => k_is); (case k42 => k_is)
    (case a43 => k_is); (case l43 => k_is); (case c43 => k_is); (case k43 => k_is)
    (case a44 => k_is); (case l44 => k_is); (case c44 => k_is); (case k44 => k_is)
    (case aC_Code => k_is)
    (case pg_Code => k_is)
    (case hd_Code => k_is)
    (case po_Code => k_is)
    (case sa_Code => k_is)
    (case mk_Code => k_is)
    (case kc_Code => k_is)
    (case na_Code_takes => k_is)
    (case na_Code_places => k_is)
    (case na_Code_rows => k_is)
    (case a_Code___init__ => k_is)
    (case i_Code___init__ => k_is)
    (case l_Code___init__ => k_is)
    (case c_Code___init__ => k_is)
    (case k_Code___init__ => k_is)
    (case a_Code_new_place => k_is)
    (case i_Code_new_place => k_is)
    (case l_Code_new_place => k_is)
    (case c_Code_new_place => k_is)
    (case k_Code_new_place => k_is)
    (case a_Code_place_of => k_is)
    (case i_Code_place_of => k_is)
    (case l_Code_place_of => k_is)
    (case c_Code_place_of => k_is)
    (case k_Code_place_of => k_is)
    (case a_Code_here => k_is)
    (case i_Code_here => k_is)
    (case l_Code_here => k_is)
    (case c_Code_here => k_is)
    (case k_Code_here => k_is)
    (case a_Code_emit => k_is)
    (case i_Code_emit => k_is)
    (case l_Code_emit => k_is)
    (case c_Code_emit => k_is)
    (case k_Code_emit => k_is)
    (case a_Code_leave => k_is)
    (case i_Code_leave => k_is)
    (case l_Code_leave => k_is)
    (case c_Code_leave => k_is)
    (case k_Code_leave => k_is)
    (case a_Code_fill => k_is)
    (case i_Code_fill => k_is)
    (case l_Code_fill => k_is)
    (case c_Code_fill => k_is)
    (case k_Code_fill => k_is)
    (case a_Code_jump_here => k_is)
    (case i_Code_jump_here => k_is)
    (case l_Code_jump_here => k_is)
    (case c_Code_jump_here => k_is)
    (case k_Code_jump_here => k_is)
    (case aC_Workspace => k_is)
    (case pg_Workspace => k_is)
    (case hd_Workspace => k_is)
    (case po_Workspace => k_is)
    (case sa_Workspace => k_is)
    (case mk_Workspace => k_is)
    (case kc_Workspace => k_is)
    (case na_Workspace_number => k_is)
    (case na_Workspace_parent => k_is)
    (case na_Workspace_takes => k_is)
    (case na_Workspace_gives => k_is)
    (case na_Workspace_code => k_is)
    (case na_Workspace_cells => k_is)
    (case na_Workspace_stack => k_is)
    (case na_Workspace_at => k_is)
    (case na_Workspace_state => k_is)
    (case a_Workspace___init__ => k_is)
    (case i_Workspace___init__ => k_is)
    (case l_Workspace___init__ => k_is)
    (case c_Workspace___init__ => k_is)
    (case k_Workspace___init__ => k_is)
    (case a_Workspace_cell => k_is)
    (case i_Workspace_cell => k_is)
    (case l_Workspace_cell => k_is)
    (case c_Workspace_cell => k_is)
    (case k_Workspace_cell => k_is)
    (case a_Workspace_store => k_is)
    (case i_Workspace_store => k_is)
    (case l_Workspace_store => k_is)
    (case c_Workspace_store => k_is)
    (case k_Workspace_store => k_is)
    (case a_Workspace_advance => k_is)
    (case i_Workspace_advance => k_is)
    (case l_Workspace_advance => k_is)
    (case c_Workspace_advance => k_is)
    (case k_Workspace_advance => k_is)
    (case a_Workspace_step => k_is)
    (case i_Workspace_step => k_is)
    (case l_Workspace_step => k_is)
    (case c_Workspace_step => k_is)
    (case k_Workspace_step => k_is)
    (case z_n_len => k_is)
    (case z_n_int => k_is)
    (case z_n_abs => k_is)
    (case z_n_range => k_is)
    (case z_n_list => k_is)
    (case z_n_tuple => k_is)
    (case z_n_dict => k_is)
    (case z_n_isinstance => k_is)
    (case z_c_WORDS => k_is)
    (case z_ADDED => k_is)
    (case zl_ADDED => k_is)
    (case zy_ADDED => k_keys)
    (case z0_ADDED => k_is)
    (case z_STEPS => k_is)
    (case zl_STEPS => k_is)
    (case zy_STEPS => k_keys)
    (case zw_STEPS => decide)
    (case z0_STEPS => k_is)
    (case z1_STEPS => k_is)
    (case z2_STEPS => k_is)
    (case z3_STEPS => k_is)
    (case z4_STEPS => k_is)
    (case z5_STEPS => k_is)
    (case z6_STEPS => k_is)
    (case z7_STEPS => k_is)
    (case z8_STEPS => k_is)
    (case z9_STEPS => k_is)
    (case z10_STEPS => k_is)
    (case z11_STEPS => k_is)
    (case z12_STEPS => k_is)
    (case z13_STEPS => k_is)
    (case z14_STEPS => k_is)
    (case z15_STEPS => k_is)
    (case z16_STEPS => k_is)
#print axioms PySem.Challenge.cw_placedanyhow_k36_code_of_expressions_holds
