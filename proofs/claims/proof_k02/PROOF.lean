import PyProof.Rows.All
import Wide.All
import OpenK.AllK
import Wide.FinOn
import HandS.ForMost
import HandS.IsInst
import HandS.Steps
import HandS.StrMore
import HandS.Codes
import HandS.More
import HandS.Strs
import HandS.Text
import HandS.TryOnly
import PyProof.AutoSeq1
import HandS.Wide
import HandS.ForExc
import HandS.ExcInit
import HandS.ExcField
import KE.KExcIs
import PySem.Challenge.RW_placedanyhow_k02_errors_of_tokens
set_option Elab.async false
set_option linter.all false
set_option maxRecDepth 100000
set_option maxHeartbeats 4000000
namespace Y
open PySem L2

/-! ### rules joined -/
section
variable {X : Cx}
def rAddA (K : PySem.W.Frag) : R2 := fun x y H Q => rI0 (fun i j => .int (i + j)) x y H Q ∨ (∃ i j, x = V.str i ∧ y = V.str j ∧ i.length + j.length ≤ sizeLine ∧ Q (.str (i ++ j)) H) ∨ rCat x y H Q ∨ rCatT K x y H Q
theorem op_addA : OpR X (binaryOp .Add) (rAddA X.K) := op_add.or (op_add_str.or (op_cat.or op_catT))
def rEqA (K : PySem.W.Frag) : R2 := fun x y H Q => rEq x y H Q ∨ rEqD K x y H Q
def rNeA (K : PySem.W.Frag) : R2 := fun x y H Q => rNe x y H Q ∨ rNeD K x y H Q
theorem op_eqA (hu : X.A.units + 64 < cLine) : OpR X (compareOp .Eq) (rEqA X.K) := op_eq.or (op_eqD hu)
theorem op_neA (hu : X.A.units + 64 < cLine) : OpR X (compareOp .NotEq) (rNeA X.K) := op_ne.or (op_neD hu)
def rLenA (K : PySem.W.Frag) : List V → Hp → VK → Prop := fun xs H Q => (∃ p ys, xs = [V.ref p] ∧ (SqL K H p ys ∨ SqT K H p ys) ∧ Q (.int ys.length) H) ∨ ∃ z, xs = [V.str z] ∧ z.length ≤ sizeLine ∧ Q (.int z.length) H
theorem call_lenA : CallR X (.builtin "len") (rLenA X.K) := call_len_seq.or call_len_str
def rSlA (K : PySem.W.Frag) : V → Option Int → Option Int → Hp → VK → Prop := fun x lo hi H Q => rSlL K x lo hi H Q ∨ rSlT K x lo hi H Q
theorem sl_any : SlR X (rSlA X.K) := sl_list.or sl_tup
theorem hu64 {A : Around} {k : Nat} (hr : Room k A) : A.units + 64 < cLine := by have := hr.un; omega
theorem pe_globC {x : Str} {n : Int} {pos : Pos} (hg : Gl X x) (hm : ∃ t, X.mg x = some (.int n t)) (hd : (x == ("__debug__" : Str)) = false := by decide) : PE X (.Name x pos) (tC (.int n)) := by
  obtain ⟨t, h⟩ := hm
  exact pe_glob hg h ⟨t, rfl⟩ hd
theorem pe_ty {x : Str} {n : String} {pos : Pos} (hg : Gl X x) (hm : X.mg x = none) (hv : bootBuiltins x = some (.type n)) (hn : x ≠ "__name__" := by decide) (hd : (x == ("__debug__" : Str)) = false := by decide) : PE X (.Name x pos) (tC (.ty n)) := pe_bltn hg hm hv rfl hn hd
end

section
variable {X : Cx} {K : PySem.W.Frag}
theorem op_eqK (hK : X.K = K) (hu : X.A.units + 64 < cLine) : OpR X (compareOp .Eq) (rEqA K) := hK ▸ op_eqA hu
theorem op_neK (hK : X.K = K) (hu : X.A.units + 64 < cLine) : OpR X (compareOp .NotEq) (rNeA K) := hK ▸ op_neA hu
theorem op_addK (hK : X.K = K) : OpR X (binaryOp .Add) (rAddA K) := hK ▸ op_addA
theorem ix_seqK (hK : X.K = K) : IxR X (rIx K) := hK ▸ ix_seq
theorem call_lenK (hK : X.K = K) : CallR X (.builtin "len") (rLenA K) := hK ▸ call_lenA
theorem op_inK (hK : X.K = K) : OpR X (compareOp .In) (rIn K false) := hK ▸ op_in_seq
theorem op_notInK (hK : X.K = K) : OpR X (compareOp .NotIn) (rIn K true) := hK ▸ op_notIn_seq
theorem sl_anyK (hK : X.K = K) : SlR X (rSlA K) := hK ▸ sl_any
theorem pi_listK {tg l : Expr} {tl : TE} (hK : X.K = K) (hl : PE X l tl) : PI X tg l (iList K tl) := hK ▸ pi_list hl
end
section
variable {X : Cx}
def rIsN : R2 := fun x y H Q => y = .non ∧ Q (.bl (decide (x = .non))) H
def rNotN : R2 := fun x y H Q => y = .non ∧ Q (.bl (!decide (x = .non))) H
theorem op_isN1 : OpR X (compareOp .Is) rIsN := op_isN
theorem op_notN1 : OpR X (compareOp .IsNot) rNotN := op_notN
end
section
variable {X : Cx}
def rInt : List V → Hp → VK → Prop := fun xs H Q => (∃ i, xs = [V.int i] ∧ Q (.int i) H) ∨ ∃ k, xs = [.bl k] ∧ Q (.int (if k then 1 else 0)) H
def rAbs : List V → Hp → VK → Prop := fun xs H Q => ∃ i, xs = [V.int i] ∧ Q (.int (if i < 0 then -i else i)) H
def rListOf (K : PySem.W.Frag) : List V → Hp → VK → Prop := fun xs H Q => ∃ p ys, xs = [V.ref p] ∧ (SqL K H p ys ∨ SqT K H p ys) ∧ ∀ l, H l = none → Q (.ref l) (upd H l (.lst ys))
theorem call_intA : CallR X (.type "int") rInt := call_int1
theorem call_absA : CallR X (.builtin "abs") rAbs := call_abs
theorem call_listA : CallR X (.type "list") (rListOf X.K) := call_list_of
end
/-! ### defs -/
section
variable (P : Program) (w : World) (K : PySem.W.Frag) (mg : Str → Option Value) (base : Heap)
/-- a def of the text as it stands behind the top -/
def Dn (x : Str) (st : Stmt) (ps : List Str) : Prop := ∃ f fd, Fun K x x st f fd ∧ mg x = some (.ref f) ∧ Binds K fd ps []
/-- a def that keeps its promise -/
def Cal (x : Str) (k : Nat) (ps : List Str) (sp : Sp) : Prop := ∃ f fd, FnOk P w K mg base CX0 k f fd ps sp ∧ mg x = some (.ref f) ∧ PySem.W.keepIn K (.ref f) = true ∧ Binds K fd ps []
end
section
variable {P : Program} {w : World} {K : PySem.W.Frag} {mg : Str → Option Value} {base : Heap}
theorem Dn.ok {x : Str} {st : Stmt} {N ps : List Str} {k : Nat} {sp : Sp} (D : Dn K mg x st ps) (S : FnScope N ps (defScope st)) (len : ∀ vs H Q E, sp vs H Q E → vs.length = ps.length)
    (hbody : ∀ (f : Addr) (cdv : Value) (A : Around) (outer : List Env) (s : Shared) (H : Hp) (vs : List V) (Q : VK) (E : XK), Room k (A.deeper (PyProof.Rows.envOfC x (defScope st) s.heap.objs.size f cdv)) → sp vs H Q E →
      ∃ t, PSs (cxOf CX0 P w K mg base N x (defScope st) f cdv A outer s H E).nox (defBody st) t ∧ t { nx := fun _ H' => Q .non H', rt := Q } (start N vs) H) : Cal P w K mg base x (k + 1) ps sp := by
  obtain ⟨f, fd, F, m, b⟩ := D
  exact ⟨f, fd, F.ok S len (hbody f), m, F.kp, b⟩
theorem pe_cal {X : Cx} {x : Str} {k : Nat} {ps : List Str} {sp : Sp} {e : Expr} {es : List Expr} {t : TA} {p pos : Pos} (G : Cal X.prog X.w X.K X.mg X.base x k ps sp) (hr : Room k X.A) (hg : Gl X x) (ha : PA X (e :: es) t)
    (hdb : (x == ("__debug__" : Str)) = false := by decide) (he : starEach (e :: es) X.env = (false, eval e X.env) :: starEach es X.env := by rfl) (hpl : (backTo pos (starEach es X.env)).any (·.1) = false := by rfl) : PE X (.Call (.Name x p) (e :: es) [] pos) (tCall sp [] E0 t) := by
  obtain ⟨f, fd, F, m, kp, b⟩ := G
  exact pe_call F hr hg m kp b .nil pass0 ha hdb he hpl
theorem pe_cal0 {X : Cx} {x : Str} {k : Nat} {ps : List Str} {sp : Sp} {p pos : Pos} (G : Cal X.prog X.w X.K X.mg X.base x k ps sp) (hr : Room k X.A) (hg : Gl X x)
    (hdb : (x == ("__debug__" : Str)) = false := by decide) : PE X (.Call (.Name x p) [] [] pos) (tCall sp [] E0 tNil) := by
  obtain ⟨f, fd, F, m, kp, b⟩ := G
  exact pe_call0 F hr hg m kp b .nil pass0 hdb
end

/-! ### heaps -/
/-- all that was tracked stays -/
def Ex (H H' : Hp) : Prop := ∀ a o, H a = some o → H' a = some o
/-- all tuples stay, and all that is not at M -/
structure Kp (M : List Addr) (H H' : Hp) : Prop where
  tup : ∀ a xs, H a = some (.tup xs) → H' a = some (.tup xs)
  out : ∀ a o, a ∉ M → H a = some o → H' a = some o
theorem Ex.refl (H : Hp) : Ex H H := fun _ _ h => h
theorem Ex.trans {H H1 H2 : Hp} (a : Ex H H1) (b : Ex H1 H2) : Ex H H2 := fun x o h => b x o (a x o h)
theorem Ex.same {H H' : Hp} (e : Ex H H') : L2.Same H H' := e
theorem Ex.kp {M : List Addr} {H H' : Hp} (e : Ex H H') : Kp M H H' := ⟨fun a xs h => e a _ h, fun a o _ h => e a o h⟩
theorem Kp.refl {M : List Addr} (H : Hp) : Kp M H H := (Ex.refl H).kp
theorem Kp.trans {M : List Addr} {H H1 H2 : Hp} (a : Kp M H H1) (b : Kp M H1 H2) : Kp M H H2 := ⟨fun x o h => b.tup x o (a.tup x o h), fun x o n h => b.out x o n (a.out x o n h)⟩
theorem Kp.sub {M N : List Addr} {H H' : Hp} (a : Kp M H H') (s : ∀ x, x ∈ M → x ∈ N) : Kp N H H' := ⟨a.tup, fun x o n h => a.out x o (fun z => n (s x z)) h⟩
theorem Ex.mk {H H2 : Hp} {p : Addr} {o : HO} (h : H p = none) (e : upd H p o = H2) : Ex H H2 := fun a u ha => by
  rw [← e, upd_ne (ne_of_none ha h)]
  exact ha
theorem at_new {H H2 : Hp} {p : Addr} {o : HO} (e : upd H p o = H2) : H2 p = some o := by rw [← e]; exact upd_same
theorem Kp.set {M : List Addr} {H H2 : Hp} {p : Addr} {o : HO} (hm : p ∈ M) (ht : ∀ xs, H p ≠ some (.tup xs)) (e : upd H p o = H2) : Kp M H H2 := ⟨fun a xs h => by
  rw [← e, upd_ne (fun z => ht xs (by rw [← z]; exact h))]
  exact h, fun a u n h => by
  rw [← e, upd_ne (fun z => n (by rw [z]; exact hm))]
  exact h⟩
theorem free_back {H H' : Hp} {p : Addr} (e : Ex H H') (h : H' p = none) : H p = none := by
  cases h1 : H p with
  | none => rfl
  | some o => rw [e p o h1] at h; cases h
theorem free_backK {M : List Addr} {H H' : Hp} {p : Addr} (e : Kp M H H') (hm : p ∉ M) (h : H' p = none) : H p = none := by
  cases h1 : H p with
  | none => rfl
  | some o => rw [e.out p o hm h1] at h; cases h
theorem at_ex {H H' : Hp} {p : Addr} {o : HO} (e : Ex H H') (h : H p = some o) : H' p = some o := e p o h
theorem at_kp {M : List Addr} {H H' : Hp} {p : Addr} {o : HO} (e : Kp M H H') (hm : p ∉ M) (h : H p = some o) : H' p = some o := e.out p o hm h
theorem tup_kp {M : List Addr} {H H' : Hp} {p : Addr} {xs : List V} (e : Kp M H H') (h : H p = some (.tup xs)) : H' p = some (.tup xs) := e.tup p xs h
theorem sqt {K : PySem.W.Frag} {H : Hp} {p : Addr} {xs : List V} (h : H p = some (.tup xs)) : SqT K H p xs := Or.inl (Or.inl h)
theorem sql {K : PySem.W.Frag} {H : Hp} {p : Addr} {xs : List V} (h : H p = some (.lst xs)) : SqL K H p xs := Or.inl (Or.inl h)
theorem sl1000 {n : Nat} (h : n ≤ 100000) : n ≤ sizeLine := Nat.le_trans h (by decide)
theorem sl1000' {n : Nat} (h : n < 100000) : n < sizeLine := Nat.lt_of_lt_of_le h (by decide)

theorem at0 {α : Type} {x : α} {xs : List α} : atI (x :: xs) 0 = some x := atI_nat (j := 0) rfl
theorem at_i {α : Type} {xs : List α} {n : Int} (h0 : 0 ≤ n) (h1 : n < xs.length) : ∃ v, xs[n.toNat]? = some v ∧ atI xs n = some v := by
  have hk : n.toNat < xs.length := by omega
  have e : n = ((n.toNat : Nat) : Int) := by omega
  refine ⟨xs[n.toNat], List.getElem?_eq_getElem hk, ?_⟩
  have q : atI xs ((n.toNat : Nat) : Int) = some xs[n.toNat] := atI_nat (List.getElem?_eq_getElem hk)
  rw [← e] at q
  exact q
/-! ### readings, step by step -/
def newT (Q : VK) (xs : List V) (H : Hp) : Prop := xs.length ≤ sizeLine ∧ ∀ p, H p = none → Q (.ref p) (upd H p (.tup xs))
def newL (Q : VK) (xs : List V) (H : Hp) : Prop := xs.length ≤ sizeLine ∧ ∀ p, H p = none → Q (.ref p) (upd H p (.lst xs))
theorem cut1 (xs : List V) : cutV xs (some 1) none = xs.drop 1 := by
  unfold cutV
  rw [show HT.sIx xs.length 0 (some 1) = min 1 xs.length from HT.sIx_nat xs.length 0 1, HT.sIx_none]
  cases xs with
  | nil => rfl
  | cons x r =>
    rw [show min 1 (x :: r).length = 1 by
      rw [List.length_cons]
      omega]
    show (List.take ((x :: r).length - 1) r) = r
    rw [List.length_cons, Nat.add_sub_cancel]
    exact List.take_length
section
variable {K : PySem.W.Frag} {σ : L2.St} {H : Hp} {Q : VK} {QT : Bool → Hp → Prop} {QA : List V → Hp → Prop} {QS : L2.St → Hp → Prop} {v x y : V} {i : Nat} {ta tb te : TE} {t u c : TT} {tr : TA} {r : R2} {ts us : TS} {nx bk ct : L2.St → Hp → Prop} {rt : VK} {g : TG} {gs : TGs}
theorem r_var (h : σ[i]? = some (some v)) (q : Q v H) : tVar i σ H Q := ⟨v, h, q⟩
theorem r_c (q : Q v H) : tC v σ H Q := q
theorem r_op (q : ta σ H fun x H1 => tb σ H1 fun y H2 => r x y H2 Q) : tOp r ta tb σ H Q := q
theorem r_un {r : V → Hp → VK → Prop} (q : ta σ H fun x H1 => r x H1 Q) : tUn r ta σ H Q := q
theorem r_tup (q : tr σ H fun xs H1 => newT Q xs H1) : tTup tr σ H Q := q
theorem r_lst (q : tr σ H fun xs H1 => newL Q xs H1) : tLst tr σ H Q := q
theorem q_newT {xs : List V} (hl : xs.length ≤ 100000) (q : ∀ p Hn, H p = none → Ex H Hn → Hn p = some (.tup xs) → Q (.ref p) Hn) : newT Q xs H := ⟨sl1000 hl, fun p hp => q p _ hp (Ex.mk hp rfl) upd_same⟩
theorem q_newL {xs : List V} (hl : xs.length ≤ 100000) (q : ∀ p Hn, H p = none → Ex H Hn → Hn p = some (.lst xs) → Q (.ref p) Hn) : newL Q xs H := ⟨sl1000 hl, fun p hp => q p _ hp (Ex.mk hp rfl) upd_same⟩
theorem r_cons (q : ta σ H fun x H1 => tr σ H1 fun xs H2 => QA (x :: xs) H2) : tCons ta tr σ H QA := q
theorem r_nil (q : QA [] H) : tNil σ H QA := q
theorem r_cb {r : List V → Hp → VK → Prop} (q : tr σ H fun vs H1 => r vs H1 Q) : tCB r tr σ H Q := q
theorem r_call {sp : Sp} {E : XK} (q : tr σ H fun vs H1 => sp vs H1 Q E) : tCall sp [] E tr σ H Q := by
  have e : (fun (vs : List V) (H1 : Hp) => sp (vs ++ []) H1 Q E) = fun vs H1 => sp vs H1 Q E := by
    funext vs H1
    rw [List.append_nil]
  show tr σ H (fun vs H1 => sp (vs ++ []) H1 Q E)
  rw [e]
  exact q
theorem r_ifE (q : t σ H fun c H1 => if c = true then ta σ H1 Q else tb σ H1 Q) : tIf t ta tb σ H Q := q
theorem r_sl {r : V → Option Int → Option Int → Hp → VK → Prop} {tl th : TO} (q : te σ H fun x H1 => tl σ H1 fun l H2 => th σ H2 fun u H3 => r x l u H3 Q) : tSl r te tl th σ H Q := q
theorem r_nopart {Q : Option Int → Hp → Prop} (q : Q none H) : tNoPart σ H Q := q
theorem r_part {Q : Option Int → Hp → Prop} (q : te σ H fun x H1 => ∃ i, x = .int i ∧ Q (some i) H1) : tPart te σ H Q := q
theorem q_part {i : Int} {B : Int → Prop} (q : B i) : ∃ j, V.int i = .int j ∧ B j := ⟨i, rfl, q⟩
theorem r_dget {td ty : TE} (q : td σ H fun x H1 => ty σ H1 fun y H2 => ∃ a v, x = .ref a ∧ DGet H2 a y (some v) ∧ Q v H2) : tDGet td ty σ H Q := q
theorem q_dget {p : Addr} {kvs : List (Key × V)} {z : Str} {B : V → Prop} (h : H p = some (.dK kvs)) (hl : valV kvs (Sum.inr z) = some v) (q : B v) : ∃ a v', V.ref p = .ref a ∧ DGet H a (.str z) (some v') ∧ B v' :=
  ⟨p, v, rfl, by rw [← hl]; exact DGet.k (k := Sum.inr z) h, q⟩
theorem r_andV (q : ta σ H fun x H1 => ∃ c, x = .bl c ∧ if c = true then tb σ H1 Q else Q (.bl false) H1) : tAndV ta tb σ H Q := q
theorem r_orV (q : ta σ H fun x H1 => ∃ c, x = .bl c ∧ if c = true then Q (.bl true) H1 else tb σ H1 Q) : tOrV ta tb σ H Q := q
theorem r_notV (q : ta σ H fun x H1 => ∃ c, x = .bl c ∧ Q (.bl (!c)) H1) : tNotV ta σ H Q := q
theorem r_test (q : te σ H fun x H' => ∃ k, x = .bl k ∧ QT k H') : tTest te σ H QT := q
theorem r_tB (q : te σ H fun x H1 => ∃ c, x = .bl c ∧ QT c H1) : tB te σ H QT := q
theorem q_exb {b : Bool} {B : Bool → Prop} (q : B b) : ∃ k, V.bl b = .bl k ∧ B k := ⟨b, rfl, q⟩
theorem r_and (q : t σ H fun c H1 => if c = true then u σ H1 QT else QT false H1) : tAnd t u σ H QT := q
theorem r_or (q : t σ H fun c H1 => if c = true then QT true H1 else u σ H1 QT) : tOr t u σ H QT := q
theorem r_not (q : t σ H fun c H1 => QT (!c) H1) : tNot t σ H QT := q
theorem r_seq (q : ts ⟨us ⟨nx, rt, bk, ct⟩, rt, bk, ct⟩ σ H) : tSeq ts us ⟨nx, rt, bk, ct⟩ σ H := q
theorem r_next (q : nx σ H) : tNext ⟨nx, rt, bk, ct⟩ σ H := q
theorem r_ifS (q : c σ H fun b H1 => if b = true then ts ⟨nx, rt, bk, ct⟩ σ H1 else us ⟨nx, rt, bk, ct⟩ σ H1) : tIfS c ts us ⟨nx, rt, bk, ct⟩ σ H := q
theorem r_asg (q : te σ H fun x H1 => g x σ H1 nx) : tAsg te g ⟨nx, rt, bk, ct⟩ σ H := q
theorem r_aug {ti : TIp} (h : σ[i]? = some (some v)) (q : te σ H fun y H1 => ti v y H1 fun z H2 => nx (σ.set i (some z)) H2) : tAug i te ti ⟨nx, rt, bk, ct⟩ σ H := ⟨v, h, q⟩
theorem q_ip {f : Int → Int → Int} {i j : Int} (q : Q (.int (f i j)) H) : ipI f (.int i) (.int j) H Q := ⟨i, j, rfl, rfl, q⟩
theorem r_drop (q : te σ H fun _ H1 => nx σ H1) : tDrop te ⟨nx, rt, bk, ct⟩ σ H := q
theorem r_ret (q : te σ H rt) : tRet te ⟨nx, rt, bk, ct⟩ σ H := q
theorem r_retN (q : rt .non H) : tRetN ⟨nx, rt, bk, ct⟩ σ H := q
theorem r_gname (q : QS (σ.set i (some v)) H) : gName i v σ H QS := q
theorem r_gnil (q : QS σ H) : gNil [] σ H QS := ⟨rfl, q⟩
theorem r_gcons {vs : List V} (q : g v σ H fun σ' H' => gs vs σ' H' QS) : gCons g gs (v :: vs) σ H QS := ⟨v, vs, rfl, q⟩
theorem r_gtup {p : Addr} {xs : List V} {n : Nat} (h : SqT K H p xs) (hl : xs.length = n) (q : gs xs σ H QS) : gTup K n gs (.ref p) σ H QS := ⟨p, xs, rfl, h, hl, q⟩
theorem r_gsub {to ti : TE} {s : TSet} (q : to σ H fun o H1 => ti σ H1 fun i H2 => s o i v H2 fun H3 => QS σ H3) : gSub to ti s v σ H QS := q
theorem r_bm {T : String} {r : V → List V → Hp → VK → Prop} (q : te σ H fun x H1 => tyV K T x H1 ∧ tr σ H1 fun xs H2 => r x xs H2 Q) : tBM K T r te tr σ H Q := q
theorem r_bm0 {T : String} {r : V → List V → Hp → VK → Prop} (q : te σ H fun x H1 => tyV K T x H1 ∧ r x [] H1 Q) : tBM0 K T r te σ H Q := q
theorem q_tyL {p : Addr} {xs : List V} {A : Prop} (h : H p = some (.lst xs)) (q : A) : tyV K "list" (.ref p) H ∧ A := ⟨Or.inl ⟨rfl, xs, sql h⟩, q⟩

theorem cast_q {x y : V} (e : x = y) (h : Q x H) : Q y H := e ▸ h
/-! ### operations on values -/
theorem q_addI {i j : Int} (q : Q (.int (i + j)) H) : rAddA K (.int i) (.int j) H Q := .inl ⟨i, j, rfl, rfl, q⟩
theorem q_I0 {f : Int → Int → V} {i j : Int} (q : Q (f i j) H) : rI0 f (.int i) (.int j) H Q := ⟨i, j, rfl, rfl, q⟩
theorem q_I {C : Int → Int → Prop} {f : Int → Int → V} {i j : Int} (h : C i j) (q : Q (f i j) H) : rI C f (.int i) (.int j) H Q := ⟨i, j, rfl, rfl, h, q⟩
theorem q_U {f : Int → V} {i : Int} (q : Q (f i) H) : rU f (.int i) H Q := ⟨i, rfl, q⟩
theorem q_ixT {p : Addr} {xs : List V} {i : Int} (h : SqT K H p xs) (ha : atI xs i = some v) (q : Q v H) : rIx K (.ref p) (.int i) H Q := .inr (.inl ⟨p, xs, i, v, rfl, rfl, h, ha, q⟩)
theorem q_ixL {p : Addr} {xs : List V} {i : Int} (h : SqL K H p xs) (ha : atI xs i = some v) (q : Q v H) : rIx K (.ref p) (.int i) H Q := .inl ⟨p, xs, i, v, rfl, rfl, h, ha, q⟩
theorem q_eqY (hs : scal x y = true) (he : x = y) (q : Q (.bl true) H) : rEqA K x y H Q := .inl ⟨hs, by rw [decide_eq_true he]; exact q⟩
theorem q_eqN (hs : scal x y = true) (he : ¬ x = y) (q : Q (.bl false) H) : rEqA K x y H Q := .inl ⟨hs, by rw [decide_eq_false he]; exact q⟩
theorem q_eqI {i j : Int} (h1 : i = j → Q (.bl true) H) (h2 : ¬ i = j → Q (.bl false) H) : rEqA K (.int i) (.int j) H Q := by
  by_cases e : i = j
  · exact q_eqY rfl (by rw [e]) (h1 e)
  · exact q_eqN rfl (fun z => e (V.int.inj z)) (h2 e)
theorem q_eqS {i j : Str} (h1 : i = j → Q (.bl true) H) (h2 : ¬ i = j → Q (.bl false) H) : rEqA K (.str i) (.str j) H Q := by
  by_cases e : i = j
  · exact q_eqY rfl (by rw [e]) (h1 e)
  · exact q_eqN rfl (fun z => e (V.str.inj z)) (h2 e)
theorem q_neY (hs : scal x y = true) (he : ¬ x = y) (q : Q (.bl true) H) : rNeA K x y H Q := .inl ⟨hs, by rw [decide_eq_false he]; exact q⟩
theorem q_neN (hs : scal x y = true) (he : x = y) (q : Q (.bl false) H) : rNeA K x y H Q := .inl ⟨hs, by rw [decide_eq_true he]; exact q⟩
theorem q_neI {i j : Int} (h1 : ¬ i = j → Q (.bl true) H) (h2 : i = j → Q (.bl false) H) : rNeA K (.int i) (.int j) H Q := by
  by_cases e : i = j
  · exact q_neN rfl (by rw [e]) (h2 e)
  · exact q_neY rfl (fun z => e (V.int.inj z)) (h1 e)
theorem q_neS {i j : Str} (h1 : ¬ i = j → Q (.bl true) H) (h2 : i = j → Q (.bl false) H) : rNeA K (.str i) (.str j) H Q := by
  by_cases e : i = j
  · exact q_neN rfl (by rw [e]) (h2 e)
  · exact q_neY rfl (fun z => e (V.str.inj z)) (h1 e)
theorem q_cmp {f : Int → Int → Prop} [∀ i j, Decidable (f i j)] {i j : Int} (h1 : f i j → Q (.bl true) H) (h2 : ¬ f i j → Q (.bl false) H) : rI0 (fun i j => .bl (decide (f i j))) (.int i) (.int j) H Q := by
  refine ⟨i, j, rfl, rfl, ?_⟩
  show Q (V.bl (decide (f i j))) H
  by_cases e : f i j
  · rw [decide_eq_true e]; exact h1 e
  · rw [decide_eq_false e]; exact h2 e
theorem cmulL {i j : Int} (h : -(2 ^ 64) < i ∧ i < 2 ^ 64) : CMul i j := .inl h
theorem cmulR {i j : Int} (h : -(2 ^ 64) < j ∧ j < 2 ^ 64) : CMul i j := .inr h
theorem cdiv {i j : Int} (h : 0 < j ∧ j < 1073741824) : CDiv i j := h
theorem q_neD (hn : ¬ x = y) (hs : scal x y = true) (q : Q (.bl true) H) : rNeA K x y H Q := q_neY hs hn q
theorem q_cmpY {f : Int → Int → Prop} [∀ i j, Decidable (f i j)] {i j : Int} (h : f i j) (q : Q (.bl true) H) : rI0 (fun i j => .bl (decide (f i j))) (.int i) (.int j) H Q :=
  ⟨i, j, rfl, rfl, by show Q (V.bl (decide (f i j))) H; rw [decide_eq_true h]; exact q⟩
theorem q_cmpN {f : Int → Int → Prop} [∀ i j, Decidable (f i j)] {i j : Int} (h : ¬ f i j) (q : Q (.bl false) H) : rI0 (fun i j => .bl (decide (f i j))) (.int i) (.int j) H Q :=
  ⟨i, j, rfl, rfl, by show Q (V.bl (decide (f i j))) H; rw [decide_eq_false h]; exact q⟩
theorem q_isNY (he : x = .non) (q : Q (.bl true) H) : rIsN x .non H Q := ⟨rfl, by rw [decide_eq_true he]; exact q⟩
theorem q_isNN (he : ¬ x = .non) (q : Q (.bl false) H) : rIsN x .non H Q := ⟨rfl, by rw [decide_eq_false he]; exact q⟩
theorem q_notNY (he : x = .non) (q : Q (.bl false) H) : rNotN x .non H Q := ⟨rfl, by rw [decide_eq_true he]; exact q⟩
theorem q_notNN (he : ¬ x = .non) (q : Q (.bl true) H) : rNotN x .non H Q := ⟨rfl, by rw [decide_eq_false he]; exact q⟩
theorem q_lenL {p : Addr} {xs : List V} (h : SqL K H p xs) (q : Q (.int xs.length) H) : rLenA K [.ref p] H Q := .inl ⟨p, xs, rfl, .inl h, q⟩
theorem q_lenT {p : Addr} {xs : List V} (h : SqT K H p xs) (q : Q (.int xs.length) H) : rLenA K [.ref p] H Q := .inl ⟨p, xs, rfl, .inr h, q⟩
theorem q_sl1T {p : Addr} {xs : List V} (h : SqT K H p (x :: xs)) (q : ∀ p Hn, H p = none → Ex H Hn → Hn p = some (.tup xs) → Q (.ref p) Hn) : rSlA K (.ref p) (some 1) none H Q :=
  .inr ⟨p, x :: xs, rfl, h, fun z => by
    have e : HT.sIx (x :: xs).length 0 (some 1) = min 1 (x :: xs).length := HT.sIx_nat _ 0 1
    have z1 := z.1
    rw [e, List.length_cons] at z1
    omega, fun p hp => q p _ hp (Ex.mk hp rfl) (by rw [upd_same, cut1]; rfl)⟩
theorem q_sl1L {p : Addr} {xs : List V} (h : SqL K H p (x :: xs)) (q : ∀ p Hn, H p = none → Ex H Hn → Hn p = some (.lst xs) → Q (.ref p) Hn) : rSlA K (.ref p) (some 1) none H Q :=
  .inl ⟨p, x :: xs, rfl, h, fun p hp => q p _ hp (Ex.mk hp rfl) (by rw [upd_same, cut1]; rfl)⟩
theorem q_inT {p : Addr} {xs : List V} (h : SqT K H p xs) (hx : flatV x = true) (ha : xs.all flatV = true) (q : Q (.bl (inV x xs)) H) : rIn K false x (.ref p) H Q := ⟨p, xs, rfl, .inr h, hx, ha, q⟩
theorem q_inTY {p : Addr} {xs : List V} (h : SqT K H p xs) (hx : (flatV x && xs.all flatV && inV x xs) = true) (q : Q (.bl true) H) : rIn K false x (.ref p) H Q := by
  simp only [Bool.and_eq_true] at hx
  exact ⟨p, xs, rfl, .inr h, hx.1.1, hx.1.2, by rw [if_neg Bool.false_ne_true, hx.2]; exact q⟩
theorem q_inTN {p : Addr} {xs : List V} (h : SqT K H p xs) (hx : (flatV x && xs.all flatV && !inV x xs) = true) (q : Q (.bl false) H) : rIn K false x (.ref p) H Q := by
  simp only [Bool.and_eq_true, Bool.not_eq_true'] at hx
  exact ⟨p, xs, rfl, .inr h, hx.1.1, hx.1.2, by rw [if_neg Bool.false_ne_true, hx.2]; exact q⟩
theorem q_inLY {p : Addr} {xs : List V} (h : SqL K H p xs) (hx : (flatV x && xs.all flatV && inV x xs) = true) (q : Q (.bl true) H) : rIn K false x (.ref p) H Q := by
  simp only [Bool.and_eq_true] at hx
  exact ⟨p, xs, rfl, .inl h, hx.1.1, hx.1.2, by rw [if_neg Bool.false_ne_true, hx.2]; exact q⟩
theorem q_inLN {p : Addr} {xs : List V} (h : SqL K H p xs) (hx : (flatV x && xs.all flatV && !inV x xs) = true) (q : Q (.bl false) H) : rIn K false x (.ref p) H Q := by
  simp only [Bool.and_eq_true, Bool.not_eq_true'] at hx
  exact ⟨p, xs, rfl, .inl h, hx.1.1, hx.1.2, by rw [if_neg Bool.false_ne_true, hx.2]; exact q⟩
theorem q_isi {t : Value} {T : String} {b : Bool} (ty : TyOf K H x t) (e : PySem.W.kitOne K t (.type T) = some b) (q : Q (.bl b) H) : rIsi K [x, .ty T] H Q := ⟨x, .ty T, t, .type T, b, rfl, .ty T, .base ty, e, q⟩
theorem q_isiBI {i : Int} (q : Q (.bl false) H) : rIsi K [.int i, .ty "bool"] H Q := q_isi (.int i) (kit_ty (by decide +kernel)) q
theorem q_isiBN (q : Q (.bl false) H) : rIsi K [.non, .ty "bool"] H Q := q_isi .non (kit_ty (by decide +kernel)) q
def dispK (Q : VK) (p : Addr) (ps : List (V × V)) (H : Hp) : Prop := H p = some (.dK []) ∧ ∃ kvs : List (Key × V), ps = kvs.map (fun kv => (kV kv.1, kv.2)) ∧ kvs.length ≤ 15 ∧ Q (.ref p) (upd H p (.dK (mergeK [] kvs)))
theorem r_disp {trs : List (TE × TE)} (q : ∀ p Hn, H p = none → Ex H Hn → Hn p = some (.dK []) → tPairs trs σ Hn fun ps H2 => dispK Q p ps H2) : tDisp trs σ H Q := fun p hp => q p _ hp (Ex.mk hp rfl) upd_same
theorem r_pnil {QP : List (V × V) → Hp → Prop} (q : QP [] H) : tPairs [] σ H QP := q
theorem r_pcons {QP : List (V × V) → Hp → Prop} {tk tv : TE} {r : List (TE × TE)} (q : tk σ H fun x H1 => tv σ H1 fun y H2 => tPairs r σ H2 fun ps H3 => QP ((x, y) :: ps) H3) : tPairs ((tk, tv) :: r) σ H QP := q
theorem merge_nd {kvs : List (Key × V)} (h : (kvs.map (·.1)).Nodup) : mergeK [] kvs = kvs := by
  have key : ∀ (more acc : List (Key × V)), ((acc ++ more).map (·.1)).Nodup → mergeK acc more = acc ++ more := by
    intro more
    induction more with
    | nil => intro acc _; rw [List.append_nil]; rfl
    | cons p r ih =>
      intro acc h
      have hp : valV acc p.1 = none := by
        cases hv : valV acc p.1 with
        | none => rfl
        | some x =>
          exfalso
          have hm := valV_in hv
          rw [List.map_append, List.nodup_append] at h
          exact h.2.2 _ hm _ (by simp) rfl
      show mergeK (putK acc p.1 p.2) r = acc ++ p :: r
      rw [putK_new _ hp, ih _ (by rw [List.append_assoc]; exact h), List.append_assoc]
      rfl
  exact key kvs [] h
theorem q_disp {p : Addr} {ps : List (V × V)} (kvs : List (Key × V)) (h : H p = some (.dK [])) (e : ps = kvs.map (fun kv => (kV kv.1, kv.2))) (nd : (kvs.map (·.1)).Nodup) (hl : kvs.length ≤ 15)
    (q : ∀ Hn, Kp [p] H Hn → Hn p = some (.dK kvs) → Q (.ref p) Hn) : dispK Q p ps H := ⟨h, kvs, e, hl, by
  rw [merge_nd nd]
  exact q _ (Kp.set (List.mem_singleton.mpr rfl) (fun xs z => by rw [h] at z; cases z) rfl) upd_same⟩
theorem q_inL {p : Addr} {xs : List V} (h : SqL K H p xs) (hx : flatV x = true) (ha : xs.all flatV = true) (q : Q (.bl (inV x xs)) H) : rIn K false x (.ref p) H Q := ⟨p, xs, rfl, .inl h, hx, ha, q⟩
theorem r_iL {tl : TE} {R : It → Hp → Prop} (q : tl σ H fun x H1 => ∃ a, x = .ref a ∧ (∃ xs, SqL K H1 a xs) ∧ R (Itl K a) H1) : iList K tl σ H R := q
theorem q_iL {a : Addr} {xs : List V} {B : Addr → Prop} (h : SqL K H a xs) (q : B a) : ∃ b, V.ref a = .ref b ∧ (∃ xs, SqL K H b xs) ∧ B b := ⟨a, rfl, ⟨xs, h⟩, q⟩
theorem r_iT {tl : TE} {R : It → Hp → Prop} (q : tl σ H fun x H1 => ∃ a, x = .ref a ∧ (∃ xs, SqT K H1 a xs) ∧ R (Itt K a) H1) : iTup K tl σ H R := q
theorem q_iT {a : Addr} {xs : List V} {B : Addr → Prop} (h : SqT K H a xs) (q : B a) : ∃ b, V.ref a = .ref b ∧ (∃ xs, SqT K H b xs) ∧ B b := ⟨a, rfl, ⟨xs, h⟩, q⟩
theorem r_rng1 {R : It → Hp → Prop} (q : tr σ H fun vs H1 => ∃ j : Int, vs = [.int j] ∧ -(2 ^ 62) ≤ j ∧ j < 2 ^ 62 ∧ R (Itr 0 j.toNat) H1) : iRng1 tr σ H R := q
theorem q_rng1 {j : Int} {B : Int → Prop} (h : 0 ≤ j ∧ j ≤ 1000000) (q : B j) : ∃ i : Int, [V.int j] = [.int i] ∧ -(2 ^ 62) ≤ i ∧ i < 2 ^ 62 ∧ B i := ⟨j, rfl, by omega, by omega, q⟩
theorem r_rng2 {R : It → Hp → Prop} (q : tr σ H fun vs H1 => ∃ i j : Int, vs = [.int i, .int j] ∧ (-(2 ^ 62) ≤ i ∧ i < 2 ^ 62 ∧ -(2 ^ 62) ≤ j ∧ j < 2 ^ 62) ∧ R (Itr i (j - i).toNat) H1) : iRng2 tr σ H R := q
theorem q_rng2 {i j : Int} {B : Int → Int → Prop} (h : 0 ≤ i ∧ i ≤ 1000000 ∧ 0 ≤ j ∧ j ≤ 1000000) (q : B i j) : ∃ a b : Int, [V.int i, V.int j] = [.int a, .int b] ∧ (-(2 ^ 62) ≤ a ∧ a < 2 ^ 62 ∧ -(2 ^ 62) ≤ b ∧ b < 2 ^ 62) ∧ B a b :=
  ⟨i, j, rfl, ⟨by omega, by omega, by omega, by omega⟩, q⟩
theorem r_lc {wi : TI} {vs : List Nat} (q : wi σ H fun J H1 => ∀ D, H1 D = none → ∃ W : Nat → Nat → Hp → Prop, (∃ m, W 0 m (upd H1 D (.lst []))) ∧ ∀ i m H, W i m H →
  (J.stop i H ∧ Q (.ref D) H) ∨ (J.go i H ∧ ∃ Nx : Hp → Prop, (∀ H', Nx H' → ∃ m', m' < m ∧ W (i + 1) m' H') ∧ ∀ x H', J.yld i H x H' → g x (wipe σ vs) H' fun σ2 H2 => wipe σ2 vs = wipe σ vs ∧ t σ2 H2 fun b H3 =>
    if b = true then te σ2 H3 fun y H4 => ∃ acc, H4 D = some (.lst acc) ∧ acc.length < sizeLine ∧ Nx (upd H4 D (.lst (acc ++ [y]))) else Nx H3)) : tLc wi g t te vs σ H Q := q
theorem r_yes (q : QT true H) : tYes σ H QT := q
theorem r_for {wi : TI} (q : wi σ H fun J H1 => ∃ W : Nat → Nat → L2.St → Hp → Prop, (∃ m, W 0 m σ H1) ∧ ∀ i m σ H, W i m σ H →
  (J.stop i H ∧ nx σ H) ∨ (J.go i H ∧ ∃ N : L2.St → Hp → Prop, (∀ σ' H', N σ' H' → ∃ m', m' < m ∧ W (i + 1) m' σ' H') ∧ ∀ x H', J.yld i H x H' → g x σ H' fun σ2 H2 => ts ⟨N, rt, nx, N⟩ σ2 H2)) : tFor wi g ts ⟨nx, rt, bk, ct⟩ σ H := q
/-- the loops' words -/
theorem w_list {a : Addr} {xs : List V} (Pv : Nat → L2.St → Hp → Prop) (h0 : Pv 0 σ H) (hl : ∀ i σ H, i ≤ xs.length → Pv i σ H → SqL K H a xs)
    (hs : ∀ i x σ H, xs[i]? = some x → Pv i σ H → g x σ H fun σ2 H2 => ts ⟨Pv (i + 1), rt, nx, Pv (i + 1)⟩ σ2 H2) (hd : ∀ σ H, Pv xs.length σ H → nx σ H) :
    ∃ W : Nat → Nat → L2.St → Hp → Prop, (∃ m, W 0 m σ H) ∧ ∀ i m σ H, W i m σ H →
      ((Itl K a).stop i H ∧ nx σ H) ∨ ((Itl K a).go i H ∧ ∃ N : L2.St → Hp → Prop, (∀ σ' H', N σ' H' → ∃ m', m' < m ∧ W (i + 1) m' σ' H') ∧ ∀ x H', (Itl K a).yld i H x H' → g x σ H' fun σ2 H2 => ts ⟨N, rt, nx, N⟩ σ2 H2) :=
  for_list (D := ⟨nx, rt, nx, nx⟩) Pv h0 hl hs hd
theorem w_tup {a : Addr} {xs : List V} (Pv : Nat → L2.St → Hp → Prop) (h0 : Pv 0 σ H) (hl : ∀ i σ H, i ≤ xs.length → Pv i σ H → SqT K H a xs)
    (hs : ∀ i x σ H, xs[i]? = some x → Pv i σ H → g x σ H fun σ2 H2 => ts ⟨Pv (i + 1), rt, nx, Pv (i + 1)⟩ σ2 H2) (hd : ∀ σ H, Pv xs.length σ H → nx σ H) :
    ∃ W : Nat → Nat → L2.St → Hp → Prop, (∃ m, W 0 m σ H) ∧ ∀ i m σ H, W i m σ H →
      ((Itt K a).stop i H ∧ nx σ H) ∨ ((Itt K a).go i H ∧ ∃ N : L2.St → Hp → Prop, (∀ σ' H', N σ' H' → ∃ m', m' < m ∧ W (i + 1) m' σ' H') ∧ ∀ x H', (Itt K a).yld i H x H' → g x σ H' fun σ2 H2 => ts ⟨N, rt, nx, N⟩ σ2 H2) :=
  for_tup (D := ⟨nx, rt, nx, nx⟩) Pv h0 hl hs hd
theorem w_rng {lo : Int} {n : Nat} (Pv : Nat → L2.St → Hp → Prop) (h0 : Pv 0 σ H)
    (hs : ∀ i σ H, i < n → Pv i σ H → g (.int (lo + i)) σ H fun σ2 H2 => ts ⟨Pv (i + 1), rt, nx, Pv (i + 1)⟩ σ2 H2) (hd : ∀ σ H, Pv n σ H → nx σ H) :
    ∃ W : Nat → Nat → L2.St → Hp → Prop, (∃ m, W 0 m σ H) ∧ ∀ i m σ H, W i m σ H →
      ((Itr lo n).stop i H ∧ nx σ H) ∨ ((Itr lo n).go i H ∧ ∃ N : L2.St → Hp → Prop, (∀ σ' H', N σ' H' → ∃ m', m' < m ∧ W (i + 1) m' σ' H') ∧ ∀ x H', (Itr lo n).yld i H x H' → g x σ H' fun σ2 H2 => ts ⟨N, rt, nx, N⟩ σ2 H2) :=
  for_range (D := ⟨nx, rt, nx, nx⟩) Pv h0 hs hd
theorem r_iS {tl : TE} {R : It → Hp → Prop} (q : tl σ H fun v H1 => ∃ x, v = .str x ∧ R (Its x) H1) : iStr tl σ H R := q
theorem q_iS {z : Str} {B : Str → Prop} (q : B z) : ∃ x, V.str z = .str x ∧ B x := ⟨z, rfl, q⟩
theorem w_str {x : Str} (Pv : Nat → L2.St → Hp → Prop) (h0 : Pv 0 σ H)
    (hs : ∀ i c σ H, x.cps.toList[i]? = some c → Pv i σ H → g (.str ⟨#[c]⟩) σ H fun σ2 H2 => ts ⟨Pv (i + 1), rt, nx, Pv (i + 1)⟩ σ2 H2) (hd : ∀ σ H, Pv x.cps.toList.length σ H → nx σ H) :
    ∃ W : Nat → Nat → L2.St → Hp → Prop, (∃ m, W 0 m σ H) ∧ ∀ i m σ H, W i m σ H →
      ((Its x).stop i H ∧ nx σ H) ∨ ((Its x).go i H ∧ ∃ N : L2.St → Hp → Prop, (∀ σ' H', N σ' H' → ∃ m', m' < m ∧ W (i + 1) m' σ' H') ∧ ∀ v H', (Its x).yld i H v H' → g v σ H' fun σ2 H2 => ts ⟨N, rt, nx, N⟩ σ2 H2) := by
  have hz : x.cps.toList.length = x.cps.size := Array.length_toList
  refine ⟨fun i m σ H => m = x.cps.size - i ∧ i ≤ x.cps.size ∧ Pv i σ H, ⟨x.cps.size, by simp, Nat.zero_le _, h0⟩, ?_⟩
  rintro i m σ H ⟨rfl, hi, p⟩
  by_cases hlt : i < x.cps.size
  · refine .inr ⟨hlt, Pv (i + 1), fun σ' H' p' => ⟨x.cps.size - (i + 1), by omega, rfl, hlt, p'⟩, fun v H' y => ?_⟩
    obtain ⟨e, c, hc, ev⟩ := y
    subst e
    subst ev
    exact hs i c _ _ (by rw [Array.getElem?_toList]; exact hc) p
  · have e : i = x.cps.toList.length := by omega
    subst e
    exact .inl ⟨by show x.cps.size ≤ _; omega, hd _ _ p⟩
theorem w_while (W : Nat → L2.St → Hp → Prop) (m0 : Nat) (h0 : W m0 σ H)
    (hs : ∀ m σ' H', W m σ' H' → c σ' H' fun b H1 => if b = true then ts ⟨fun σ2 H2 => ∃ m', m' < m ∧ W m' σ2 H2, rt, nx, fun σ2 H2 => ∃ m', m' < m ∧ W m' σ2 H2⟩ σ' H1 else nx σ' H1)
    (mono : ∀ σ H Q Q', (∀ b H1, Q b H1 → Q' b H1) → c σ H Q → c σ H Q') : tWhile c ts ⟨nx, rt, bk, ct⟩ σ H := by
  refine ⟨W, ⟨m0, h0⟩, fun m σ' H' hw => mono σ' H' _ _ (fun b H1 q => ?_) (hs m σ' H' hw)⟩
  cases b with
  | true => exact ⟨_, fun _ _ n => n, q⟩
  | false => exact q
theorem q_setL {p : Addr} {xs : List V} {k : Int} {j : Nat} {QH : Hp → Prop} (h : H p = some (.lst xs)) (hj : ixN xs.length k = some j) (q : QH (upd H p (.lst (xs.set j v)))) : rSetL (.ref p) (.int k) v H QH := ⟨p, xs, k, j, rfl, rfl, h, hj, q⟩
theorem q_append {l : Addr} {xs : List V} (h : H l = some (.lst xs)) (hz : xs.length < 100000) (q : Q .non (upd H l (.lst (xs ++ [y])))) : rAppend (.ref l) [y] H Q := ⟨l, xs, y, rfl, rfl, h, sl1000' hz, q⟩
theorem q_pop0 {l : Addr} {xs : List V} (h : H l = some (.lst (x :: xs))) (q : Q x (upd H l (.lst xs))) : rPopAt (.ref l) [.int 0] H Q := ⟨l, x :: xs, 0, 0, x, rfl, rfl, h, by decide, by decide, by simp [seqIndex?], rfl, q⟩
theorem q_abs {i : Int} (q : Q (.int (if i < 0 then -i else i)) H) : rAbs [.int i] H Q := ⟨i, rfl, q⟩
theorem q_int {i : Int} (q : Q (.int i) H) : rInt [.int i] H Q := .inl ⟨i, rfl, q⟩
theorem q_intT (q : Q (.int 1) H) : rInt [.bl true] H Q := .inr ⟨true, rfl, q⟩
theorem q_intF (q : Q (.int 0) H) : rInt [.bl false] H Q := .inr ⟨false, rfl, q⟩
theorem q_intNT (q : Q (.int 1) H) : rInt [.bl (!false)] H Q := .inr ⟨true, rfl, q⟩
theorem q_intNF (q : Q (.int 0) H) : rInt [.bl (!true)] H Q := .inr ⟨false, rfl, q⟩
theorem iteNT {A B : Prop} (h : A) : if (!false) = true then A else B := by simpa using h
theorem iteNF {A B : Prop} (h : B) : if (!true) = true then A else B := by simpa using h
theorem q_listL {p : Addr} {ys : List V} (h : SqL K H p ys) (q : ∀ p Hn, H p = none → Ex H Hn → Hn p = some (.lst ys) → Q (.ref p) Hn) : rListOf K [.ref p] H Q := ⟨p, ys, rfl, .inl h, fun p hp => q p _ hp (Ex.mk hp rfl) upd_same⟩
theorem q_listT {p : Addr} {ys : List V} (h : SqT K H p ys) (q : ∀ p Hn, H p = none → Ex H Hn → Hn p = some (.lst ys) → Q (.ref p) Hn) : rListOf K [.ref p] H Q := ⟨p, ys, rfl, .inr h, fun p hp => q p _ hp (Ex.mk hp rfl) upd_same⟩
end

/-! ### tests that hand on more where more is wished (for while) -/
section
variable {K : PySem.W.Frag}
def MoE (t : TE) : Prop := ∀ σ H (Q Q' : VK), (∀ v H1, Q v H1 → Q' v H1) → t σ H Q → t σ H Q'
def MoT (t : TT) : Prop := ∀ σ H (Q Q' : Bool → Hp → Prop), (∀ v H1, Q v H1 → Q' v H1) → t σ H Q → t σ H Q'
def MoA (t : TA) : Prop := ∀ σ H (Q Q' : List V → Hp → Prop), (∀ v H1, Q v H1 → Q' v H1) → t σ H Q → t σ H Q'
def MoR (r : R2) : Prop := ∀ x y H (Q Q' : VK), (∀ v H1, Q v H1 → Q' v H1) → r x y H Q → r x y H Q'
def MoC (r : List V → Hp → VK → Prop) : Prop := ∀ x H (Q Q' : VK), (∀ v H1, Q v H1 → Q' v H1) → r x H Q → r x H Q'
theorem mo_var {i : Nat} : MoE (tVar i) := fun _ _ _ _ k ⟨v, h, q⟩ => ⟨v, h, k _ _ q⟩
theorem mo_c {v : V} : MoE (tC v) := fun _ _ _ _ k q => k _ _ q
theorem mo_op {r : R2} {a b : TE} (hr : MoR r) (ha : MoE a) (hb : MoE b) : MoE (tOp r a b) := fun σ H Q Q' k h => ha _ _ _ _ (fun x H1 q => hb _ _ _ _ (fun y H2 q => hr _ _ _ _ _ k q) q) h
theorem mo_test {a : TE} (ha : MoE a) : MoT (tTest a) := fun σ H Q Q' k h => ha _ _ _ _ (fun x H1 ⟨c, e, q⟩ => ⟨c, e, k _ _ q⟩) h
theorem mo_and {a b : TT} (ha : MoT a) (hb : MoT b) : MoT (tAnd a b) := fun σ H Q Q' k h => ha _ _ _ _ (fun c H1 q => by
  cases c
  · exact k _ _ q
  · exact hb _ _ _ _ k q) h
theorem mo_or {a b : TT} (ha : MoT a) (hb : MoT b) : MoT (tOr a b) := fun σ H Q Q' k h => ha _ _ _ _ (fun c H1 q => by
  cases c
  · exact hb _ _ _ _ k q
  · exact k _ _ q) h
theorem mo_not {a : TT} (ha : MoT a) : MoT (tNot a) := fun σ H Q Q' k h => ha _ _ _ _ (fun c H1 q => k _ _ q) h
theorem mo_nil : MoA tNil := fun _ _ _ _ k q => k _ _ q
theorem mo_cons {a : TE} {r : TA} (ha : MoE a) (hr : MoA r) : MoA (tCons a r) := fun σ H Q Q' k h => ha _ _ _ _ (fun x H1 q => hr _ _ _ _ (fun xs H2 q => k _ _ q) q) h
theorem mo_cb {r : List V → Hp → VK → Prop} {a : TA} (hr : MoC r) (ha : MoA a) : MoE (tCB r a) := fun σ H Q Q' k h => ha _ _ _ _ (fun x H1 q => hr _ _ _ _ k q) h
theorem mo_I0 {f : Int → Int → V} : MoR (rI0 f) := fun _ _ _ _ _ k ⟨i, j, a, b, q⟩ => ⟨i, j, a, b, k _ _ q⟩
theorem mo_I {C : Int → Int → Prop} {f : Int → Int → V} : MoR (rI C f) := fun _ _ _ _ _ k ⟨i, j, a, b, c, q⟩ => ⟨i, j, a, b, c, k _ _ q⟩
theorem mo_eqA : MoR (rEqA K) := fun _ _ _ _ _ k h => h.elim (fun ⟨a, q⟩ => .inl ⟨a, k _ _ q⟩) fun ⟨d, e, a, b, c, f, q⟩ => .inr ⟨d, e, a, b, c, f, k _ _ q⟩
theorem mo_neA : MoR (rNeA K) := fun _ _ _ _ _ k h => h.elim (fun ⟨a, q⟩ => .inl ⟨a, k _ _ q⟩) fun ⟨d, e, a, b, c, f, q⟩ => .inr ⟨d, e, a, b, c, f, k _ _ q⟩
theorem mo_ix : MoR (rIx K) := fun _ _ _ _ _ k h => by
  rcases h with ⟨p, xs, i, v, a, b, c, d, q⟩ | ⟨p, xs, i, v, a, b, c, d, q⟩ | ⟨z, i, c, a, b, d, e, q⟩
  · exact .inl ⟨p, xs, i, v, a, b, c, d, k _ _ q⟩
  · exact .inr (.inl ⟨p, xs, i, v, a, b, c, d, k _ _ q⟩)
  · exact .inr (.inr ⟨z, i, c, a, b, d, e, k _ _ q⟩)
theorem mo_lenA : MoC (rLenA K) := fun _ _ _ _ k h => by
  rcases h with ⟨p, ys, a, b, q⟩ | ⟨z, a, b, q⟩
  · exact .inl ⟨p, ys, a, b, k _ _ q⟩
  · exact .inr ⟨z, a, b, k _ _ q⟩
theorem ix0 {n : Nat} : ixN (n + 1) 0 = some 0 := by
  unfold ixN
  rw [if_pos (by decide), if_pos (by omega)]
  rfl
end
end Y
namespace Y
open PySem L2
def topS (i : Nat) : Stmt := PySem.Challenge.pw_placedanyhow_k02_errors_of_tokens.main.body.getD i (.Pass ⟨0, 0, 0, 0⟩)
local macro_rules | `(tactic| walk_at "lift") => `(tactic| first
  | assumption
  | (refine at_ex (by assumption) ?_; walk_at "lift")
  | (refine tup_kp (by assumption) ?_; walk_at "lift")
  | (refine at_kp (by assumption) (by walk_at "nin") ?_; walk_at "lift"))
local macro_rules | `(tactic| walk_at "sq") => `(tactic| first
  | assumption
  | (refine sqt ?_; walk_at "lift")
  | (refine sql ?_; walk_at "lift"))
local macro_rules | `(tactic| walk_at "ar") => `(tactic| first
  | assumption
  | omega
  | (refine And.intro ?_ ?_ <;> omega)
  | (refine cdiv ⟨?_, ?_⟩ <;> omega)
  | (refine cmulL ⟨?_, ?_⟩ <;> omega)
  | (refine cmulR ⟨?_, ?_⟩ <;> omega)
  | decide)
set_option hygiene false in
local macro_rules | `(tactic| walk_at "i_disp") => `(tactic| intro dp Hn hdp ke hdn)
set_option hygiene false in
local macro_rules | `(tactic| walk_at "i_new") => `(tactic| intro p Hn hp ke hn)
local macro_rules | `(tactic| walk_at "len") => `(tactic| first | decide | (simp only [List.length_cons, List.length_nil, List.length_append, List.length_map]; omega))
local macro_rules | `(tactic| walk_at "new") => `(tactic| first
  | ((with_reducible refine q_newT ?h ?_); (case h => walk_at "len"); walk_at "i_new")
  | ((with_reducible refine q_newL ?h ?_); (case h => walk_at "len"); walk_at "i_new")
  | ((with_reducible refine q_sl1T (x := ?x) (xs := ?xs) ?h ?_); (case h => walk_at "sq"); walk_at "i_new")
  | ((with_reducible refine q_sl1L (x := ?x) (xs := ?xs) ?h ?_); (case h => walk_at "sq"); walk_at "i_new")
  | ((with_reducible refine q_listL (ys := ?ys) ?h ?_); (case h => walk_at "sq"); walk_at "i_new")
  | ((with_reducible refine q_listT (ys := ?ys) ?h ?_); (case h => walk_at "sq"); walk_at "i_new"))
local macro_rules | `(tactic| walk_at "arx") => `(tactic| first
  | omega
  | decide
  | (simp only [List.length_cons, List.length_nil, List.length_map]; omega))
set_option hygiene false in
local macro_rules | `(tactic| walk_at "q") => `(tactic| exact q)
local macro_rules | `(tactic| walk_at "st") => `(tactic| first
  | with_reducible refine r_seq ?_
  | with_reducible refine r_ifS ?_
  | with_reducible refine r_asg ?_
  | with_reducible refine r_ret ?_
  | with_reducible refine r_retN ?_
  | with_reducible refine r_next ?_
  | with_reducible refine r_drop ?_
  | ((with_reducible refine r_aug (v := ?v) ?h ?_); (case h => exact rfl))
  | with_reducible refine q_ip ?_
  | ((with_reducible refine r_var (v := ?v) ?h ?_); (case h => exact rfl))
  | with_reducible refine r_c ?_
  | with_reducible refine r_op ?_
  | with_reducible refine r_un ?_
  | with_reducible refine r_test ?_
  | with_reducible refine r_tB ?_
  | with_reducible refine q_exb ?_
  | with_reducible refine r_and ?_
  | with_reducible refine r_or ?_
  | with_reducible refine r_not ?_
  | with_reducible refine r_andV ?_
  | with_reducible refine r_orV ?_
  | with_reducible refine r_notV ?_
  | with_reducible refine r_ifE ?_
  | with_reducible refine iteT ?_
  | with_reducible refine iteF ?_
  | with_reducible refine iteNT ?_
  | with_reducible refine iteNF ?_
  | with_reducible refine q_intNT ?_
  | with_reducible refine q_intNF ?_
  | with_reducible refine r_cons ?_
  | with_reducible refine r_nil ?_
  | with_reducible refine r_cb ?_
  | with_reducible refine r_call ?_
  | with_reducible refine r_tup ?_
  | with_reducible refine r_lst ?_
  | with_reducible refine r_gname ?_
  | with_reducible refine r_gnil ?_
  | with_reducible refine r_gcons ?_
  | with_reducible refine r_gsub ?_
  | ((with_reducible refine r_gtup (xs := ?xs) ?h ?l ?_); (case h => walk_at "sq"); (case l => rfl))
  | with_reducible refine r_sl ?_
  | with_reducible refine r_part ?_
  | with_reducible refine r_nopart ?_
  | with_reducible refine q_part ?_
  | with_reducible refine r_dget ?_
  | ((with_reducible refine q_dget (kvs := ?kvs) (v := ?v) ?h ?l ?_); (case h => walk_at "lift"); (case l => first | assumption | rfl))
  | with_reducible refine r_bm ?_
  | with_reducible refine r_bm0 ?_
  | with_reducible refine q_addI ?_
  | ((with_reducible refine q_eqY ?s ?e ?_); (case e => first | exact rfl | decide +kernel); (case s => rfl))
  | ((with_reducible refine q_eqN ?s ?e ?_); (case e => decide +kernel); (case s => rfl))
  | ((with_reducible refine q_eqN ?s ?e ?_); (case e => walk_at "ne"); (case s => rfl))
  | (with_reducible refine q_eqI (fun c => ?_) (fun c => ?_))
  | (with_reducible refine q_eqS (fun c => ?_) (fun c => ?_))
  | ((with_reducible refine q_neY ?s ?e ?_); (case e => decide +kernel); (case s => rfl))
  | ((with_reducible refine q_neN ?s ?e ?_); (case e => first | exact rfl | decide +kernel); (case s => rfl))
  | (with_reducible refine q_neI (fun c => ?_) (fun c => ?_))
  | (with_reducible refine q_neS (fun c => ?_) (fun c => ?_))
  | ((with_reducible refine q_cmpY ?h ?_); (case h => walk_at "arx"))
  | ((with_reducible refine q_cmpN ?h ?_); (case h => walk_at "arx"))
  | (with_reducible refine q_cmp (fun c => ?_) (fun c => ?_))
  | ((with_reducible refine q_I ?c ?_); (case c => walk_at "ar"))
  | with_reducible refine q_I0 ?_
  | with_reducible refine q_U ?_
  | ((with_reducible refine q_ixT (xs := ?xs) (v := ?v) ?h ?a ?_); (case h => walk_at "sq"); (case a => exact rfl))
  | ((with_reducible refine q_lenL (xs := ?xs) ?h ?_); (case h => walk_at "sq"))
  | ((with_reducible refine q_lenT (xs := ?xs) ?h ?_); (case h => walk_at "sq"))
  | with_reducible refine q_isiBI ?_
  | with_reducible refine q_isiBN ?_
  | ((with_reducible refine q_inTY (xs := ?xs) ?h ?e ?_); (case h => walk_at "sq"); (case e => first | decide +kernel | rfl))
  | ((with_reducible refine q_inTN (xs := ?xs) ?h ?e ?_); (case h => walk_at "sq"); (case e => first | decide +kernel | rfl))
  | ((with_reducible refine q_inLY (xs := ?xs) ?h ?e ?_); (case h => walk_at "sq"); (case e => first | decide +kernel | rfl))
  | ((with_reducible refine q_inLN (xs := ?xs) ?h ?e ?_); (case h => walk_at "sq"); (case e => first | decide +kernel | rfl))
  | with_reducible refine q_int ?_
  | with_reducible refine q_intT ?_
  | with_reducible refine q_intF ?_
  | with_reducible refine q_abs ?_
  | with_reducible refine r_yes ?_
  | with_reducible refine r_lc ?_
  | (with_reducible refine r_disp ?_; walk_at "i_disp")
  | with_reducible refine r_pcons ?_
  | with_reducible refine r_pnil ?_
  | with_reducible refine r_for ?_
  | with_reducible refine r_iL ?_
  | with_reducible refine r_iT ?_
  | with_reducible refine r_iS ?_
  | with_reducible refine q_iS ?_
  | with_reducible refine r_rng1 ?_
  | with_reducible refine r_rng2 ?_
  | ((with_reducible refine q_iL (xs := ?xs) ?h ?_); (case h => walk_at "sq"))
  | ((with_reducible refine q_iT (xs := ?xs) ?h ?_); (case h => walk_at "sq"))
  | ((with_reducible refine q_rng1 ?h ?_); (case h => walk_at "ar"))
  | ((with_reducible refine q_rng2 ?h ?_); (case h => refine And.intro ?_ (And.intro ?_ (And.intro ?_ ?_)) <;> omega))
  | walk_at "q"
  | with_reducible refine q_isNY rfl ?_
  | ((with_reducible refine q_isNN ?h ?_); (case h => intro z; cases z))
  | with_reducible refine q_notNY rfl ?_
  | ((with_reducible refine q_notNN ?h ?_); (case h => intro z; cases z))
  | ((with_reducible refine q_ixL (xs := ?xs) (v := ?v) ?h ?a ?_); (case h => walk_at "sq"); (case a => first | exact rfl | exact at0 | assumption | walk_at "ax"))
  | walk_at "new"
  | walk_at "own"
  | fail)
local macro_rules | `(tactic| walk_at "own") => `(tactic| fail)
local macro_rules | `(tactic| walk_at "ne") => `(tactic| fail)
local macro_rules | `(tactic| walk_at "ax") => `(tactic| fail)
local macro_rules | `(tactic| walk_at "ex") => `(tactic| first
  | assumption
  | exact Ex.refl _
  | (refine Ex.trans ?_ (by assumption); walk_at "ex"))
/-! ### the text's constants -/
abbrev LETs : Str := "abcdefghijklmnopqrstuvwxyzABCDEFGHIJKLMNOPQRSTUVWXYZ"
abbrev DIGs : Str := "0123456789"
def RES : List Str := ["and", "array", "call", "channel", "either", "else", "for", "from", "give", "if", "in", "into", "main", "mod", "not", "or", "out", "process", "program", "repeat", "skip", "stop", "take", "then", "to", "together", "when", "while", "word"]
def SIG : List Str := ["==", "!=", "<=", "{", "}", "(", ")", "[", "]", ";", ",", "=", "<", "+", "-", "*", "/"]
/-- a tuple of texts that the top made -/
def TupK (K : PySem.W.Frag) (a : Addr) (xs : List Str) : Prop := ∃ (o : Obj) (its : Array Value) (n : Nat), K.lookup a = some o ∧ o.cls = .type "tuple" ∧ o.data = .seq its n ∧ its.size ≤ sizeLine ∧ Vals (xs.map V.str) its.toList
theorem TupK.sq {K : PySem.W.Frag} {a : Addr} {xs : List Str} {H : Hp} (h : TupK K a xs) : SqT K H a (xs.map V.str) := Or.inr h
structure Glo (K : PySem.W.Frag) (mg : Str → Option Value) : Prop where
  n_len : mg "len" = none
  n_int : mg "int" = none
  n_str : mg "str" = none
  n_abs : mg "abs" = none
  n_range : mg "range" = none
  n_list : mg "list" = none
  n_ValueError : mg "ValueError" = none
  n_bool : mg "bool" = none
  n_isinstance : mg "isinstance" = none
  c_LETTERS : ∃ t, mg "LETTERS" = some (.str LETs t)
  c_DIGITS : ∃ t, mg "DIGITS" = some (.str DIGs t)
  c_LONGEST_NAME : ∃ t, mg "LONGEST_NAME" = some (.int 16 t)
  c_LONGEST_NUMBER : ∃ t, mg "LONGEST_NUMBER" = some (.int 5 t)
  c_GREATEST_WORD : ∃ t, mg "GREATEST_WORD" = some (.int 65535 t)
  c_RESERVED : ∃ a, mg "RESERVED" = some (.ref a) ∧ TupK K a RES
  c_SIGNS : ∃ a, mg "SIGNS" = some (.ref a) ∧ TupK K a SIG
local macro_rules | `(tactic| walk_at "lev") => `(tactic| first | decide | omega)
variable {P : Program} {w : World} {K : PySem.W.Frag} {mg : Str → Option Value} {base : Heap}
abbrev s__law_state : Stmt := topS 25
theorem sc__law_state : FnScope ["_law_script", "_law_seed", "_law_cell"] ["_law_script"] (defScope s__law_state) := ⟨rfl, rfl, rfl, by decide +kernel, rfl, by decide +kernel, by decide +kernel⟩
abbrev p__law_state : List Str := ["_law_script"]
abbrev s__law_draw : Stmt := topS 26
theorem sc__law_draw : FnScope ["_law_state_here", "_law_many", "_law_cells", "_law_mixed", "_law_number"] ["_law_state_here", "_law_many"] (defScope s__law_draw) := ⟨rfl, rfl, rfl, by decide +kernel, rfl, by decide +kernel, by decide +kernel⟩
abbrev p__law_draw : List Str := ["_law_state_here", "_law_many"]
abbrev s__law_pick : Stmt := topS 27
theorem sc__law_pick : FnScope ["_law_state_here", "_law_row"] ["_law_state_here", "_law_row"] (defScope s__law_pick) := ⟨rfl, rfl, rfl, by decide +kernel, rfl, by decide +kernel, by decide +kernel⟩
abbrev p__law_pick : List Str := ["_law_state_here", "_law_row"]
/-! ### the draws' state -/
structure StOk (st c : Addr) (H : Hp) : Prop where
  ex : ∃ (ns : List Int) (s : Int), H st = some (.lst [.ref c, .int s]) ∧ H c = some (.lst (ns.map V.int)) ∧ (∀ n ∈ ns, 0 ≤ n) ∧ 0 ≤ s ∧ s < 2147483648
  ne : c ≠ st
theorem st_ex {st c : Addr} {H H' : Hp} (e : Ex H H') (h : StOk st c H) : StOk st c H' := by
  obtain ⟨⟨ns, s, a, b, d⟩, n⟩ := h
  exact ⟨⟨ns, s, e _ _ a, e _ _ b, d⟩, n⟩
/-- a fresh address is neither -/
theorem st_fresh {st c p : Addr} {H : Hp} (h : StOk st c H) (hp : H p = none) : p ∉ [st, c] := by
  obtain ⟨⟨ns, s, a, b, d⟩, n⟩ := h
  simp only [List.mem_cons, List.not_mem_nil, or_false, not_or]
  exact ⟨(ne_of_none a hp).symm, (ne_of_none b hp).symm⟩
local macro_rules | `(tactic| walk_at "st_ok") => `(tactic| first
  | assumption
  | (refine st_ex (by assumption) ?_; walk_at "st_ok"))
local macro_rules | `(tactic| walk_at "nin") => `(tactic| first
  | assumption
  | (refine st_fresh (H := ?H) ?a ?b; (case b => assumption); (case a => walk_at "st_ok")))
local macro_rules | `(tactic| walk_at "kp") => `(tactic| first
  | assumption
  | exact Kp.refl _
  | (refine Kp.trans ?_ (by assumption); walk_at "kp")
  | (refine Kp.trans ?_ (Ex.kp (by assumption)); walk_at "kp"))
theorem int_mod (a : Int) {m : Int} (h : 0 < m) : 0 ≤ a % m ∧ a % m < m := ⟨Int.emod_nonneg _ (by omega), Int.emod_lt_of_pos _ h⟩
def sp_state (K : PySem.W.Frag) : Sp := fun vs H Q _ => ∃ (a : Addr) (ns : List Int), vs = [.ref a] ∧ SqL K H a (ns.map V.int) ∧ ns.length ≤ 63 ∧ ∀ st c H', Ex H H' → H st = none → H c = none → StOk st c H' → Q (.ref st) H'
theorem ex_sql {H H' : Hp} {a : Addr} {xs : List V} (e : Ex H H') (h : SqL K H a xs) : SqL K H' a xs := e.same.seq h
theorem abs_nn (i : Int) : 0 ≤ (if i < 0 then -i else i) := by split <;> omega
theorem ok_state (T : Glo K mg) (D : Dn K mg "_law_state" s__law_state p__law_state) : Cal P w K mg base "_law_state" 1 p__law_state (sp_state K) := by
  refine D.ok sc__law_state (fun vs H Q E h => ?_) (fun f cdv A outer s H vs Q E hr h => ?_)
  · obtain ⟨_, _, rfl, _⟩ := h
    rfl
  obtain ⟨a, ns, rfl, hs, hl, q⟩ := h
  refine ⟨_, (pss_cons (ps_set (i := 1) sc__law_state.nd rfl (by first | exact Or.inl rfl | exact Or.inr rfl) pe_int) (pss_cons (ps_for PassesOwn.never rfl (pi_list (pv 0)) (pg_name (i := 2) sc__law_state.nd rfl (by first | exact Or.inl rfl | exact Or.inr rfl)) (pss_one (ps_set (i := 1) sc__law_state.nd rfl (by first | exact Or.inl rfl | exact Or.inr rfl) (pe_op op_mod (pe_callTy call_intA rfl T.n_int (by decide +kernel) (pa_cons (pe_op op_addA (pe_op op_mul (pv 1) pe_int) (pv 2)) pa_nil)) pe_int)))) (pss_one (ps_ret (pe_lst (pa_cons (pe_lc (own := [("_law_cell", 2)]) (tt := tYes) rfl sc__law_state.nd (pi_list (pv 0)) (blkOk_by (N := ["_law_script", "_law_seed", "_law_cell"]) (sc := defScope s__law_state) (by decide +kernel)) (fun _ _ _ _ _ => (pg_name (i := 2) sc__law_state.nd rfl (by first | exact Or.inl rfl | exact Or.inr rfl))) (fun _ _ _ _ _ => pts_nil) (fun _ _ _ _ _ => (pe_callB call_absA rfl T.n_abs (by decide +kernel) (pa_cons (pv 2) pa_nil)))) (pa_cons (pe_op op_addA (pv 1) pe_int) pa_nil))))))), ?_⟩
  try dsimp only [cxOf, Cx.nox]
  repeat' walk_at "st"
  refine w_list (xs := ns.map V.int) (fun i σ H' => H' = H ∧ ∃ (z : Int) (y : Option V), σ = [some (.ref a), some (.int z), y] ∧ 0 ≤ z ∧ z < 1000003) ?_ ?_ ?_ ?_
  · exact ⟨rfl, 7, none, rfl, by decide, by decide⟩
  · rintro i σ H' _ ⟨rfl, _⟩
    exact hs
  · rintro i x σ H' hx ⟨rfl, z, y, rfl, z0, z1⟩
    rw [List.getElem?_map] at hx
    obtain ⟨n, hn, rfl⟩ := Option.map_eq_some_iff.mp hx
    repeat' walk_at "st"
    refine ⟨rfl, _, some (.int n), rfl, ?_⟩
    exact int_mod _ (by decide)
  · rintro σ H' ⟨rfl, z, y, rfl, z0, z1⟩
    repeat' walk_at "st"
    intro L hL
    refine lc_list (xs := ns.map V.int) (fun i H2 => Ex H' H2 ∧ H2 L = some (.lst ((ns.take i).map fun n => V.int (if n < 0 then -n else n)))) ?_ ?_ ?_ ?_
    · exact ⟨Ex.mk hL rfl, upd_same⟩
    · rintro i H2 _ ⟨e, _⟩
      exact ex_sql e hs
    · rintro i x H2 hx ⟨e, h2⟩
      rw [List.getElem?_map] at hx
      obtain ⟨n, hn, rfl⟩ := Option.map_eq_some_iff.mp hx
      refine ⟨rfl, ?_⟩
      repeat' walk_at "st"
      refine ⟨_, h2, sl1000' ?_, ?_, ?_⟩
      · rw [List.length_map, List.length_take]
        omega
      · intro b u hb
        rw [upd_ne (ne_of_none hb hL)]
        exact e _ _ hb
      · rw [upd_same, List.take_add_one, hn, List.map_append]
        rfl
    · rintro H2 ⟨e, h2⟩
      repeat' walk_at "st"
      rw [List.take_of_length_le (by rw [List.length_map]; exact Nat.le_refl _)] at h2
      refine q p L _ (e.trans ke) (free_back e hp) hL ⟨⟨ns.map fun n => (if n < 0 then -n else n), z + 1, hn, ?_, ?_, by omega, by omega⟩, ?_⟩
      · rw [List.map_map]
        exact ke _ _ h2
      · intro n hn
        obtain ⟨m, _, rfl⟩ := List.mem_map.mp hn
        exact abs_nn m
      · exact ne_of_none h2 hp
local macro_rules | `(tactic| walk_at "ar") => `(tactic| exact wide_div (b := 63) (by omega) (by omega) (by decide) (by decide))
def sp_draw : Sp := fun vs H Q _ => ∃ (st c : Addr) (many : Int), vs = [.ref st, .int many] ∧ StOk st c H ∧ 0 < many ∧ many < 4611686018427387904 ∧ ∀ (n : Int) (H' : Hp), 0 ≤ n → n < many → Kp [st, c] H H' → StOk st c H' → Q (.int n) H'
theorem ok_draw (T : Glo K mg) (D : Dn K mg "_law_draw" s__law_draw p__law_draw) : Cal P w K mg base "_law_draw" 1 p__law_draw sp_draw := by
  refine D.ok sc__law_draw (fun vs H Q E h => ?_) (fun f cdv A outer s H vs Q E hr h => ?_)
  · obtain ⟨_, _, _, rfl, _⟩ := h
    rfl
  obtain ⟨st, c, many, rfl, ⟨⟨ns, z, hst, hc, hn, z0, z1⟩, hne⟩, m0, m1, q⟩ := h
  refine ⟨_, (pss_cons (ps_set (i := 2) sc__law_draw.nd rfl (by first | exact Or.inl rfl | exact Or.inr rfl) (pe_ix ix_seq (pv 0) pe_int (fun _ _ => rfl))) (pss_cons (ps_while PassesOwn.never (PW.pt (pw_and (pt_cmpR op_gt (pe_callB call_lenA rfl T.n_len (by decide +kernel) (pa_cons (pv 2) pa_nil)) pe_int (nomark _)) (pw_and1 (pt_cmpR (op_eqA (hu64 hr)) (pe_ix ix_seq (pv 2) pe_int (fun _ _ => rfl)) pe_int (nomark _))))) (pss_one (ps_expr (pe_bm PySem.F.plainAttrs_list PySem.F.slot_list_pop PySem.F.type_list_pop mt_popAt (pv 2) (pa_cons pe_int pa_nil))))) (pss_cons (ps_if (pt_cmpR op_gt (pe_callB call_lenA rfl T.n_len (by decide +kernel) (pa_cons (pv 2) pa_nil)) pe_int (nomark _)) (pss_cons (ps_set (i := 4) sc__law_draw.nd rfl (by first | exact Or.inl rfl | exact Or.inr rfl) (pe_ix ix_seq (pv 2) pe_int (fun _ _ => rfl))) (pss_cons (ps_asg (pe_op op_fdivW (pv 4) (pv 1)) (pg_sub (pv 2) pe_int set_list)) (pss_one (ps_ret (pe_op op_mod (pe_callTy call_intA rfl T.n_int (by decide +kernel) (pa_cons (pv 4) pa_nil)) (pv 1)))))) pss_nil) (pss_cons (ps_set (i := 3) sc__law_draw.nd rfl (by first | exact Or.inl rfl | exact Or.inr rfl) (pe_op op_mod (pe_callTy call_intA rfl T.n_int (by decide +kernel) (pa_cons (pe_op op_addA (pe_op op_mul (pe_ix ix_seq (pv 0) pe_int (fun _ _ => rfl)) pe_int) pe_int) pa_nil)) pe_int)) (pss_cons (ps_asg (pv 3) (pg_sub (pv 0) pe_int set_list)) (pss_one (ps_ret (pe_op op_mod (pe_callTy call_intA rfl T.n_int (by decide +kernel) (pa_cons (pe_op op_fdiv (pv 3) pe_int) pa_nil)) (pv 1))))))))), ?_⟩
  try dsimp only [cxOf, Cx.nox]
  repeat' walk_at "st"
  refine w_while (fun m σ H' => ∃ ns' : List Int, m = ns'.length ∧ σ = [some (.ref st), some (.int many), some (.ref c), none, none] ∧ H' st = some (.lst [.ref c, .int z]) ∧ H' c = some (.lst (ns'.map V.int)) ∧ (∀ n ∈ ns', 0 ≤ n) ∧ Kp [st, c] H H') ns.length ⟨ns, rfl, rfl, hst, hc, hn, Kp.refl _⟩ ?_ ?_
  · rintro m σ H' ⟨ns', rfl, rfl, h1, h2, h3, h4⟩
    have mc : c ∈ [st, c] := by simp
    have mst : st ∈ [st, c] := by simp
    have ht : ∀ xs, H' st ≠ some (.tup xs) := fun xs e => by rw [h1] at e; cases e
    have hu : ∀ xs, H' c ≠ some (.tup xs) := fun xs e => by rw [h2] at e; cases e
    cases ns' with
    | nil =>
      repeat' walk_at "st"
      refine q_setL (j := 1) h1 rfl ?_
      generalize hq : upd H' st _ = H2
      repeat' walk_at "st"
      have hz := int_mod (z * 48271 + 12345) (m := 2147483647) (by decide)
      refine q _ H2 (int_mod _ m0).1 (int_mod _ m0).2 (h4.trans (Kp.set mst ht hq)) ⟨⟨[], _, at_new hq, ?_, h3, hz.1, Int.lt_trans hz.2 (by decide)⟩, hne⟩
      rw [← hq, upd_ne hne]
      exact h2
    | cons n r =>
      rw [List.map_cons] at h2
      have hn0 := h3 n (List.mem_cons_self ..)
      have hr0 : ∀ n ∈ r, 0 ≤ n := fun k hk => h3 k (List.mem_cons_of_mem _ hk)
      repeat' walk_at "st"
      · refine q_tyL h2 ?_
        repeat' walk_at "st"
        refine q_pop0 h2 ?_
        refine ⟨r.length, Nat.lt_succ_self _, r, rfl, rfl, ?_, upd_same, hr0, h4.trans (Kp.set mc hu rfl)⟩
        rw [upd_ne (Ne.symm hne)]
        exact h1
      · refine q_setL (j := 0) h2 ix0 ?_
        generalize hq : upd H' c _ = H2
        repeat' walk_at "st"
        refine q _ H2 (int_mod _ m0).1 (int_mod _ m0).2 (h4.trans (Kp.set mc hu hq)) ⟨⟨n / many :: r, z, ?_, at_new hq, ?_, z0, z1⟩, hne⟩
        · rw [← hq, upd_ne (Ne.symm hne)]
          exact h1
        · intro k hk
          rcases List.mem_cons.mp hk with rfl | hk
          · exact Int.ediv_nonneg hn0 (by omega)
          · exact hr0 _ hk
  · intro σ H Q Q' hQ h
    exact mo_and (mo_test (mo_op mo_I0 (mo_cb mo_lenA (mo_cons mo_var mo_nil)) mo_c)) (mo_test (mo_op mo_eqA (mo_op mo_ix mo_var mo_c) mo_c)) _ _ _ _ hQ h
theorem c_draw {st c : Addr} {many : Int} {H : Hp} {Q : VK} {E : XK} (h1 : StOk st c H) (h2 : 0 < many ∧ many < 4611686018427387904) (q : ∀ (n : Int) (H' : Hp), 0 ≤ n → n < many → Kp [st, c] H H' → StOk st c H' → Q (.int n) H') :
    sp_draw [.ref st, .int many] H Q E := ⟨st, c, many, rfl, h1, h2.1, h2.2, q⟩
set_option hygiene false in
local macro_rules | `(tactic| walk_at "i_c_draw") => `(tactic| intro dn Hn n0 n1 ke so)
local macro_rules | `(tactic| walk_at "own") => `(tactic| (refine c_draw (c := ?c) ?a ?b ?_; (case a => walk_at "st_ok"); (case b => walk_at "arx2"); walk_at "i_c_draw"))
local macro_rules | `(tactic| walk_at "arx2") => `(tactic| first
  | (refine And.intro ?_ ?_ <;> omega)
  | (simp only [List.length_cons, List.length_nil, List.length_map]; refine And.intro ?_ ?_ <;> omega)
  | (refine And.intro ?_ ?_ <;> decide +kernel))
def sp_pick (K : PySem.W.Frag) : Sp := fun vs H Q _ => ∃ (st c a : Addr) (xs : List V), vs = [.ref st, .ref a] ∧ StOk st c H ∧ H a = some (.lst xs) ∧ a ∉ [st, c] ∧ 0 < xs.length ∧ xs.length < 1000000 ∧ ∀ (i : Nat) (v : V) (H' : Hp), xs[i]? = some v → Kp [st, c] H H' → StOk st c H' → Q v H'
theorem ok_pick (T : Glo K mg) (D : Dn K mg "_law_pick" s__law_pick p__law_pick) (G__law_draw : Cal P w K mg base "_law_draw" 1 p__law_draw sp_draw) : Cal P w K mg base "_law_pick" 2 p__law_pick (sp_pick K) := by
  refine D.ok sc__law_pick (fun vs H Q E h => ?_) (fun f cdv A outer s H vs Q E hr h => ?_)
  · obtain ⟨_, _, _, _, rfl, _⟩ := h
    rfl
  obtain ⟨st, c, a, xs, rfl, so, ha, hn, l0, l1, q⟩ := h
  refine ⟨_, (pss_one (ps_ret (pe_ix ix_seq (pv 1) (pe_cal G__law_draw (hr.mono (by walk_at "lev")) rfl (pa_cons (pv 0) (pa_cons (pe_callB call_lenA rfl T.n_len (by decide +kernel) (pa_cons (pv 1) pa_nil)) pa_nil))) (fun _ _ => rfl)))), ?_⟩
  try dsimp only [cxOf, Cx.nox]
  repeat' walk_at "st"
  obtain ⟨v, e1, e2⟩ := at_i (n := dn) n0 n1
  exact q_ixL (sql (ke.out _ _ hn ha)) e2 (q _ v Hn e1 ke so)
theorem c_pick {st c a : Addr} {xs : List V} {H : Hp} {Q : VK} {E : XK} (h1 : StOk st c H) (h2 : H a = some (.lst xs)) (h3 : a ∉ [st, c]) (h4 : 0 < xs.length ∧ xs.length < 1000000) (q : ∀ (i : Nat) (v : V) (H' : Hp), xs[i]? = some v → Kp [st, c] H H' → StOk st c H' → Q v H') :
    sp_pick K [.ref st, .ref a] H Q E := ⟨st, c, a, xs, rfl, h1, h2, h3, h4.1, h4.2, q⟩
set_option hygiene false in
local macro_rules | `(tactic| walk_at "i_c_pick") => `(tactic| intro j v Hn ej ke so)
local macro_rules | `(tactic| walk_at "own") => `(tactic| (refine c_pick (c := ?c) (xs := ?xs) ?a ?b ?e ?d ?_; (case b => walk_at "lift"); (case a => walk_at "st_ok"); (case e => walk_at "nin"); (case d => walk_at "arx2"); walk_at "i_c_pick"))
/-! ### own errors -/
section
variable (P : Program) (w : World) (K : PySem.W.Frag) (mg : Str → Option Value) (base : Heap)
/-- an own error class with one field, as it stands behind the top -/
structure ErrC (x : Str) (C : Addr) (fl : Str) : Prop where
  gC : mg x = some (.ref C)
  ox : OexC K C
  xf : XfC K C
  no : PySem.W.findIn K (.ref C) fl = some none
  cl : (PySem.W.clsIn K C).isSome = true
  ca : PySem.W.findIn K (.ref C) "__class__" = some (some (.builtin "object.__class__"))
  gn : PySem.W.specialIn K (.builtin "object.__class__") "__get__" = some (some (.builtin "getset_descriptor.__get__"))
  tk : PySem.W.takesIn K (.builtin "object.__class__") = some true
  mo : PySem.W.mroIn K C (.type "object") = some true
/-- .. its __init__ -/
def DnE (q : Str) (C : Addr) (st : Stmt) (ps : List Str) : Prop := ∃ f fd, PySem.W.findIn K (.ref C) "__init__" = some (some (.ref f)) ∧ PySem.W.typeIn K (.ref f) = some (.type "function") ∧ Fun K "__init__" q st f fd ∧ Binds K fd ps []
def MakE (C : Addr) (k : Nat) (ps : List Str) (sp : Sp) : Prop := ∃ f fd, PySem.W.findIn K (.ref C) "__init__" = some (some (.ref f)) ∧ PySem.W.typeIn K (.ref f) = some (.type "function") ∧ FnOk P w K mg base CX0 k f fd ps sp ∧ Binds K fd ps []
/-- a def that may raise and keeps its promise -/
def CalX (x : Str) (k : Nat) (ps : List Str) (sp : Sp) : Prop := ∃ f fd, FnOk P w K mg base (L2.CX P w) k f fd ps sp ∧ mg x = some (.ref f) ∧ PySem.W.keepIn K (.ref f) = true ∧ Binds K fd ps []
end
section
variable {P : Program} {w : World} {K : PySem.W.Frag} {mg : Str → Option Value} {base : Heap}
theorem DnE.ok {q : Str} {C : Addr} {st : Stmt} {N ps : List Str} {k : Nat} {sp : Sp} (D : DnE K q C st ps) (S : FnScope N ps (defScope st)) (len : ∀ vs H Q E, sp vs H Q E → vs.length = ps.length)
    (hbody : ∀ (f : Addr) (cdv : Value) (A : Around) (outer : List Env) (s : Shared) (H : Hp) (vs : List V) (Q : VK) (E : XK), Room k (A.deeper (PyProof.Rows.envOfC q (defScope st) s.heap.objs.size f cdv)) → sp vs H Q E →
      ∃ t, PSs (cxOf CX0 P w K mg base N q (defScope st) f cdv A outer s H E).nox (defBody st) t ∧ t { nx := fun _ H' => Q .non H', rt := Q } (start N vs) H) : MakE P w K mg base C (k + 1) ps sp := by
  obtain ⟨f, fd, i, t, F, b⟩ := D
  exact ⟨f, fd, i, t, F.ok S len (hbody f), b⟩
theorem Dn.okX {x : Str} {st : Stmt} {N ps : List Str} {k : Nat} {sp : Sp} (D : Dn K mg x st ps) (S : FnScope N ps (defScope st)) (len : ∀ vs H Q E, sp vs H Q E → vs.length = ps.length)
    (hbody : ∀ (f : Addr) (cdv : Value) (A : Around) (outer : List Env) (s : Shared) (H : Hp) (vs : List V) (Q : VK) (E : XK), Room k (A.deeper (PyProof.Rows.envOfC x (defScope st) s.heap.objs.size f cdv)) → sp vs H Q E →
      ∃ t, PSs (cxOf (L2.CX P w) P w K mg base N x (defScope st) f cdv A outer s H E) (defBody st) t ∧ t { nx := fun _ H' => Q .non H', rt := Q } (start N vs) H) : CalX P w K mg base x (k + 1) ps sp := by
  obtain ⟨f, fd, F, m, b⟩ := D
  exact ⟨f, fd, F.okX S len (hbody f), m, F.kp, b⟩
theorem pe_calX {X : Cx} {x : Str} {k : Nat} {ps : List Str} {sp : Sp} {W : WX} {e : Expr} {es : List Expr} {t : TA} {p pos : Pos} (G : CalX X.prog X.w X.K X.mg X.base x k ps sp) (hr : Room k X.A) (hg : Gl X x) (tk : Takes X W) (ha : PA X (e :: es) t)
    (hdb : (x == ("__debug__" : Str)) = false := by decide) (he : starEach (e :: es) X.env = (false, eval e X.env) :: starEach es X.env := by rfl) (hpl : (backTo pos (starEach es X.env)).any (·.1) = false := by rfl) : PE X (.Call (.Name x p) (e :: es) [] pos) (tCallS sp (WE W) t) := by
  obtain ⟨f, fd, F, m, kp, b⟩ := G
  exact pe_callS F hr hg m kp b (fun σ => passAt tk σ) ha hdb he hpl
theorem takes_def {N : List Str} {x : Str} {sc : Scope} {f : Addr} {cdv : Value} {A : Around} {outer : List Env} {s : Shared} {H : Hp} {E : XK} : Takes (cxOf (L2.CX P w) P w K mg base N x sc f cdv A outer s H E) (fun cls d _ H => E cls d H) := takes_of rfl rfl rfl rfl
theorem passes_def {N : List Str} {x : Str} {sc : Scope} {f : Addr} {cdv : Value} {A : Around} {outer : List Env} {s : Shared} {H : Hp} {E : XK} : PassesOwn (model P w) (cxOf (L2.CX P w) P w K mg base N x sc f cdv A outer s H E).A (cxOf (L2.CX P w) P w K mg base N x sc f cdv A outer s H E).env (cxOf (L2.CX P w) P w K mg base N x sc f cdv A outer s H E).xe := passes_of rfl
theorem hum {A : Around} {k : Nat} {x : Option Value} (hr : Room k A) : (A.mark x).units + 64 < cLine := by
  have h := hu64 hr
  exact h
/-- arguments, with what follows weakened -/
def clo (ta : TA) : TA := fun σ H Q => ∃ Q1 : List V → Hp → Prop, ta σ H Q1 ∧ ∀ vs H1, Q1 vs H1 → Q vs H1
theorem pa_clo {X : Cx} {es : List Expr} {ta : TA} (h : PA X es ta) : PA X es (clo ta) := ⟨fun pos pins s σ H Q I ⟨Q1, h1, k⟩ => thn (h.run pos pins s σ H Q1 I h1) fun us s1 ⟨vs, H1, I1, r, q⟩ => ⟨vs, H1, I1, r, k _ _ q⟩⟩
/-- what the making of an own error hands on -/
def errK (C : Addr) (fl : Str) (Q : XK) (vs : List V) (H : Hp) : Prop := ∃ v, vs = [v] ∧ ∀ d H2, H d = none → Ex H H2 → H2 d = some (.xd [(fl, v)]) → Q (.ref C) (some d) H2
def tErr (C : Addr) (fl : Str) (ta : TA) : L2.St → Hp → XK → Prop := fun σ H Q => ta σ H fun vs H1 => errK C fl Q vs H1
def sp_einit (C : Addr) (fl : Str) : Sp := fun vs H Q _ => ∃ (a : Addr) (v : V), vs = [.ref a, v] ∧ H a = some (exo a C none) ∧ ∀ dx, H dx = none → dx ≠ a → Q .non (upd (upd H dx (exd dx [(fl, v)])) a (exo a C (some dx)))
theorem pmk_err {X : Cx} {x fl : Str} {C : Addr} {k : Nat} {ps : List Str} {e : Expr} {es : List Expr} {ta : TA} {p pos : Pos} (T : ErrC X.K X.mg x C fl) (G : MakE X.prog X.w X.K X.mg X.base C k ps (sp_einit C fl)) (hr : Room (k + 1) X.A) (hg : Gl X x) (ha : PA X (e :: es) ta)
    (hdb : (x == ("__debug__" : Str)) = false := by decide) (he : starEach (e :: es) X.env = (false, eval e X.env) :: starEach es X.env := by rfl) (hpl : (backTo pos (starEach es X.env)).any (·.1) = false := by rfl) : PMk X (.Call (.Name x p) (e :: es) [] pos) (tErr C fl ta) := by
  obtain ⟨f, fd, i, t, F, b⟩ := G
  intro pins s σ H Q I h
  refine pmk_oex T.ox i t F hr b .nil pass0 hg T.gC (pa_clo ha) hdb he hpl pins s σ H Q I ⟨_, h, ?_⟩
  rintro vs H1 ⟨v, rfl, q⟩
  refine ⟨(by show 1 ≤ 1000; decide), fun a ha => ⟨a, v, rfl, upd_same, fun dx n ne => ⟨rfl, dx, [(fl, v)], upd_same, ?_, ?_, ?_⟩⟩⟩
  · rw [upd_ne ne]
    exact upd_same
  · rw [upd_ne ne] at n
    exact n
  · rw [upd_ne ne] at n
    refine q dx _ n (fun b o hb => ?_) upd_same
    rw [upd_ne (ne_of_none hb n), del_ne (ne_of_none hb ha), upd_ne (ne_of_none hb ha), upd_ne (ne_of_none hb n), upd_ne (ne_of_none hb ha)]
    exact hb
/-- raise C(e) -/
def tRaiseE (C : Addr) (fl : Str) (W : WX) (ta : TA) : TS := fun _ σ H => tErr C fl ta σ H fun cls d H' => W cls d σ H'
theorem ps_err {X : Cx} {x fl : Str} {C : Addr} {k : Nat} {ps : List Str} {W : WX} {e : Expr} {ta : TA} {p pos pos' : Pos} (hc : X.calm = true) (tk : Takes X W) (T : ErrC X.K X.mg x C fl) (G : MakE X.prog X.w X.K X.mg X.base C k ps (sp_einit C fl)) (hr : Room (k + 1) X.A) (hg : Gl X x) (ha : PA X [e] ta)
    (hdb : (x == ("__debug__" : Str)) = false := by decide) (he : starEach [e] X.env = (false, eval e X.env) :: starEach [] X.env := by rfl) (hpl : (backTo pos (starEach [] X.env)).any (·.1) = false := by rfl) :
    PS X (.Raise (some (.Call (.Name x p) [e] [] pos)) none pos') (tRaiseE C fl W ta) := ps_raise hc tk (pmk_err T G hr hg ha hdb he hpl)
/-- e.f, e the error that the suite holds -/
def tXfE (K : PySem.W.Frag) (a : Addr) (cls : Value) (d : Option Addr) (f : Str) (te : TE) : TE := fun σ H Q => ∃ C, XfC K C ∧ PySem.W.findIn K (.ref C) f = some none ∧ tXf a cls d C f te σ H Q
theorem pe_xfE {X : Cx} {a : Addr} {oe : Obj} {cls : Value} {d : Option Addr} {pn : List (Addr × Obj)} {e : Expr} {te : TE} {pos : Pos} {n : Str} (hz : Zc cls d oe) (hf : ∃ vs, oe.data = .fields vs) (he : PE (X.suite a ((a, oe) :: pn)) e te)
    (hb : attributeBase e n X.env (eval e X.env) = eval e X.env := by rfl) : PE (X.suite a ((a, oe) :: pn)) (.Attribute e n pos) (tXfE X.K a cls d n te) :=
  ⟨fun pins s σ H Q I ⟨_, x, no, h⟩ => (pe_xf x no hz hf he hb).run pins s σ H Q I h⟩
/-- isinstance(e, c) of it -/
def rIsX (K : PySem.W.Frag) (a : Addr) (cls : Value) (d : Option Addr) : List V → Hp → VK → Prop := fun xs H Q => ∃ (D dd : Addr) (x fl : Str) (mg : Str → Option Value) (fs : List (Str × V)) (c : V) (cv : Value) (b : Bool), cls = .ref D ∧ d = some dd ∧ ErrC K mg x D fl ∧ H dd = some (.xd fs) ∧ xs = [.ref a, c] ∧ (∀ u, RelV c u → u = cv) ∧
  PySem.W.kitOne K (.ref D) cv = some b ∧ Q (.bl b) H
theorem call_isX {X : Cx} {a : Addr} {oe : Obj} {cls : Value} {d : Option Addr} {pn : List (Addr × Obj)} (hz : Zc cls d oe) (hf : ∃ vs, oe.data = .fields vs) : CallR (X.suite a ((a, oe) :: pn)) (.builtin "isinstance") (rIsX X.K a cls d) := by
  intro pins s σ H xs us Q I r h
  obtain ⟨D, dd, x, fl, mg, fs, c, cv, b, rfl, rfl, T, hdd, rfl, hcv, e, q⟩ := h
  cases r with
  | cons rx rr =>
    cases rr with
    | cons rt rr =>
      cases rr
      cases rx
      obtain rfl := hcv _ rt
      have hp := (I.pin (a, oe) (List.mem_append_left _ List.mem_cons_self)).1
      obtain ⟨vs, hv⟩ := hf
      have hx : ObjOk X.prog X.w H s.heap dd (.xd fs) := I.hok dd _ hdd
      obtain ⟨mA, hns, _⟩ := hx
      obtain ⟨od, ho, _⟩ := lookIn_ns hns
      have J : PySem.W.InstAt s.heap a oe D (some od) := ⟨hp, hz.1, by unfold PySem.W.notCls; rw [hv], by rw [hz.2]; exact ho⟩
      exact PySem.W.kia_one (PySem.W.kitx_exc T.cl T.xf.ga T.xf.gg T.xf.exC T.ca T.gn T.tk T.mo) I.kIn J e (fun z => nomatch z) fun tk => ⟨.bl b, H, I.kept (t' := tk) fun _ _ z => z, rfl, q⟩
theorem exm_own {C D : Addr} (hs : PySem.W.subIn K (.ref D) (.type "BaseException") = some true) (hi : PySem.W.isClsIn K D = true) (ht : PySem.W.typeIn K (.ref D) = some (.type "type")) {b : Bool} (h : PySem.W.subIn K (.ref C) (.ref D) = some b) : PySem.W.exmOne K (.ref C) (.ref D) = some b := by
  have e1 : (PySem.W.subIn K (.ref D) (.type "BaseException") == some true) = true := by rw [hs]; rfl
  have h2 : (PySem.W.clsIn K D).isSome = true := hi
  have e2 : ((PySem.W.clsIn K D).isSome && PySem.W.typeIn K (.ref D) == some (.type "type")) = true := by rw [h2, ht]; rfl
  show (if _ then (if _ then _ else none) else none) = some b
  rw [if_pos e1, if_pos e2]
  exact h
end
section
variable {K : PySem.W.Frag} {σ : L2.St} {H : Hp} {Q : VK} {te : TE} {tr : TA} {C : Addr} {fl : Str} {W : WX} {D : Ends}
theorem r_callS {sp : Sp} (q : tr σ H fun vs H1 => sp vs H1 Q (WE W σ)) : tCallS sp (WE W) tr σ H Q := q
def raiK (C : Addr) (fl : Str) (W : WX) (σ : L2.St) (vs : List V) (H : Hp) : Prop := errK C fl (fun cls d H' => W cls d σ H') vs H
theorem r_raise (q : tr σ H fun vs H1 => raiK C fl W σ vs H1) : tRaiseE C fl W tr D σ H := q
theorem q_raise {v : V} (q : ∀ d H2, H d = none → Ex H H2 → H2 d = some (.xd [(fl, v)]) → W (.ref C) (some d) σ H2) : raiK C fl W σ [v] H := ⟨v, rfl, q⟩
theorem r_try {tb : WX → TS} {W : Ends → WX} (q : tb (W D) D σ H) : (fun D σ H => tb (W D) D σ H) D σ H := q
def xfK (K : PySem.W.Frag) (a : Addr) (cls : Value) (d : Option Addr) (f : Str) (Q : VK) (x : V) (H : Hp) : Prop := x = .ref a ∧ ∃ (C dd : Addr) (fs : List (Str × V)) (v : V), cls = .ref C ∧ XfC K C ∧ PySem.W.findIn K (.ref C) f = some none ∧ d = some dd ∧ H dd = some (.xd fs) ∧ fs.lookup f = some v ∧ Q v H
theorem q_isX {a D dd : Addr} {x fl : Str} {mg : Str → Option Value} {fs : List (Str × V)} {c : V} {cv : Value} {b : Bool} (T : ErrC K mg x D fl) (h : H dd = some (.xd fs)) (hc : ∀ u, RelV c u → u = cv) (e : PySem.W.kitOne K (.ref D) cv = some b) (q : Q (.bl b) H) :
    rIsX K a (.ref D) (some dd) [.ref a, c] H Q := ⟨D, dd, x, fl, mg, fs, c, cv, b, rfl, rfl, T, h, rfl, hc, e, q⟩
/-- e.f where e stands in a slot -/
theorem q_xfE {a C dd : Addr} {f : Str} {fs : List (Str × V)} {v : V} {i : Nat} (hi : σ[i]? = some (some (.ref a))) (x : XfC K C) (no : PySem.W.findIn K (.ref C) f = some none) (h : H dd = some (.xd fs)) (l : fs.lookup f = some v) (q : Q v H) : tXfE K a (.ref C) (some dd) f (tVar i) σ H Q :=
  ⟨C, x, no, .ref a, hi, rfl, rfl, dd, fs, v, rfl, h, l, q⟩
end
local macro_rules | `(tactic| walk_at "own") => `(tactic| first
  | with_reducible refine r_callS ?_
  | with_reducible refine r_raise ?_
  | with_reducible refine q_raise ?_)
/-! ### texts by their codes -/
abbrev Tx (a : List Nat) : Str := ⟨a.toArray⟩
theorem T_len (a : List Nat) : (Tx a).length = a.length := by simp [Tx, Str.length]
theorem T_tl (a : List Nat) : (Tx a).cps.toList = a := rfl
theorem T_inj {a b : List Nat} (h : Tx a = Tx b) : a = b := congrArg (fun x : Str => x.cps.toList) h
theorem T_of (x : Str) : Tx x.cps.toList = x := rfl
theorem T_cat (a b : List Nat) : Tx a ++ Tx b = Tx (a ++ b) := SX.S_cat a b
abbrev LET : List Nat := LETs.cps.toList
abbrev DIG : List Nat := DIGs.cps.toList
def runC (c : Nat) : Bool := decide (c ∈ LET) || decide (c ∈ DIG) || decide (c = 95)
/-- the part that begins a text that is not empty -/
def partL (r : List Nat) : List Nat :=
  if r.takeWhile runC = [] then (match SIG.find? fun s => s.cps.toList.isPrefixOf r with | some s => s.cps.toList | none => r.take 1) else r.takeWhile runC
def restNl (r : List Nat) : List Nat := r.takeWhile fun c => decide (c ≠ 10)
theorem q_tyS {x : Str} {A : Prop} {H : Hp} (q : A) : tyV K "str" (.str x) H ∧ A := ⟨rfl, q⟩
def rFind3 : V → List V → Hp → VK → Prop := fun x xs H Q => ∃ (a b : Str) (i : Int), x = .str a ∧ xs = [.str b, .int i] ∧ Q (.int (Txt.find3 a b i)) H
theorem mt_find3A {X : Cx} : MtR X "str.find" rFind3 := mt_find3
def rStart3 : V → List V → Hp → VK → Prop := fun x xs H Q => ∃ (a b : Str) (i : Int), x = .str a ∧ xs = [.str b, .int i] ∧ Q (.bl (Txt.startswith3 a b i)) H
theorem mt_start3A {X : Cx} : MtR X "str.startswith" rStart3 := mt_startswith3
theorem fi {n k : Nat} : fromIndex n (k : Int) = k := by
  unfold fromIndex
  rw [if_neg (by omega)]
  omega
theorem restNl_all : ∀ {r : List Nat}, (∀ c ∈ r, c ≠ 10) → restNl r = r
  | [], _ => rfl
  | c :: r, h => by
    have h1 := h c (List.mem_cons_self ..)
    have ih := restNl_all (r := r) fun x hx => h x (List.mem_cons_of_mem _ hx)
    unfold restNl at ih ⊢
    rw [List.takeWhile_cons, if_pos (by simpa using h1), ih]
theorem restNl_at : ∀ {r : List Nat} {i : Nat}, r[i]? = some 10 → (∀ v, v < i → r[v]? ≠ some 10) → (restNl r).length = i
  | [], i, h, _ => by simp at h
  | c :: r, 0, h, _ => by
    have e : c = 10 := by simpa using h
    unfold restNl
    rw [List.takeWhile_cons, if_neg (by simp [e])]
    rfl
  | c :: r, i + 1, h, hn => by
    have h1 : c ≠ 10 := fun e => hn 0 (Nat.succ_pos _) (by simp [e])
    have ih := restNl_at (r := r) (i := i) (by simpa using h) fun v hv => by
      have := hn (v + 1) (by omega)
      simpa using this
    unfold restNl at ih ⊢
    rw [List.takeWhile_cons, if_pos (by simpa using h1), List.length_cons, ih]
theorem find_nl {a : List Nat} {k : Nat} (hk : k ≤ a.length) : (Txt.find3 (Tx a) (Tx [10]) (k : Int) = -1 ∧ restNl (a.drop k) = a.drop k) ∨ (Txt.find3 (Tx a) (Tx [10]) (k : Int) = ((k + (restNl (a.drop k)).length : Nat) : Int) ∧ k + (restNl (a.drop k)).length < a.length) := by
  have gd : ∀ v, (Tx a).cps.getD v 0 = a.getD v 0 := fun v => by simp [Tx, Array.getD_eq_getD_getElem?]
  rcases StrLaws.find3_spec (Tx a) 10 (k : Int) with ⟨h1, h2⟩ | ⟨j, h1, h2, h3, h4, h5⟩
  · refine .inl ⟨h1, restNl_all fun c hc e => ?_⟩
    obtain ⟨i, hi, e2⟩ := List.mem_iff_getElem.mp hc
    rw [List.length_drop] at hi
    refine h2 (k + i) (by rw [fi]; omega) (by rw [T_len]; omega) ?_
    rw [gd, List.getD_eq_getElem?_getD, List.getElem?_eq_getElem (by omega)]
    rw [List.getElem_drop] at e2
    rw [Option.getD_some, e2, e]
  · rw [fi] at h2
    rw [T_len] at h3
    have hl : (restNl (a.drop k)).length = j - k := by
      refine restNl_at ?_ fun v hv => ?_
      · rw [List.getElem?_drop, show k + (j - k) = j by omega, List.getElem?_eq_getElem h3]
        rw [gd, List.getD_eq_getElem?_getD, List.getElem?_eq_getElem h3] at h4
        exact congrArg some h4
      · have := h5 (k + v) (by rw [fi]; omega) (by omega)
        rw [gd, List.getD_eq_getElem?_getD] at this
        rw [List.getElem?_drop]
        intro e
        rw [e] at this
        exact this rfl
    refine .inr ⟨?_, by omega⟩
    show Txt.find3 (Tx a) ⟨#[10]⟩ (k : Int) = _
    rw [h1, hl]
    omega
theorem q_find3 {a b : Str} {i : Int} {H : Hp} {Q : VK} (q : Q (.int (Txt.find3 a b i)) H) : rFind3 (.str a) [.str b, .int i] H Q := ⟨a, b, i, rfl, rfl, q⟩
theorem q_lenS {z : Str} {H : Hp} {Q : VK} (h : z.length ≤ 100000) (q : Q (.int z.length) H) : rLenA K [.str z] H Q := .inr ⟨z, rfl, sl1000 h, q⟩
theorem q_inSY {c : Nat} {z : Str} {H : Hp} {Q : VK} (q : Q (.bl (decide (c ∈ z.cps.toList))) H) : rInS (.str (Tx [c])) (.str z) H Q := ⟨c, z, rfl, rfl, q⟩
theorem q_notInSY {c : Nat} {z : Str} {H : Hp} {Q : VK} (q : Q (.bl (!decide (c ∈ z.cps.toList))) H) : rNotInS (.str (Tx [c])) (.str z) H Q := ⟨c, z, rfl, rfl, q⟩
def rIntS : List V → Hp → VK → Prop := fun xs H Q => ∃ a n, xs = [V.str a] ∧ intText? a = some n ∧ a.length ≤ 640 ∧ Q (.int n) H
theorem call_intS {X : Cx} : CallR X (.type "int") rIntS := call_int_str
theorem q_intS {z : Str} {n : Int} {H : Hp} {Q : VK} (h : intText? z = some n) (hl : z.length ≤ 640) (q : Q (.int n) H) : rIntS [.str z] H Q := ⟨z, n, rfl, h, hl, q⟩
theorem q_intN {n : Nat} {H : Hp} {Q : VK} (h : n < 65536) (q : Q (.int n) H) : rIntS [.str (Tx (TL.numL n))] H Q := by
  have hl := TL.numL_len (n := n) (k := 5) (by decide) (by omega)
  have e := TL.int_num (n := n) (by omega)
  rw [SX.num_S] at e
  exact q_intS e (by rw [T_len]; omega) q
theorem pe_globS {X : Cx} {x : Str} {z : Str} {pos : Pos} (hg : Gl X x) (hm : ∃ t, X.mg x = some (.str z t)) (hd : (x == ("__debug__" : Str)) = false := by decide) : PE X (.Name x pos) (tC (.str z)) := by
  obtain ⟨t, h⟩ := hm
  exact pe_glob hg h ⟨t, rfl⟩ hd
theorem pe_globR {X : Cx} {x : Str} {a : Addr} {pos : Pos} (hg : Gl X x) (hm : X.mg x = some (.ref a)) (hd : (x == ("__debug__" : Str)) = false := by decide) : PE X (.Name x pos) (tC (.ref a)) := pe_glob hg hm rfl hd
theorem q_eqSd {x y : Str} {H : Hp} {Q : VK} (q : Q (.bl (decide (x = y))) H) : rEqA K (.str x) (.str y) H Q := .inl ⟨rfl, by
  have e : decide (V.str x = V.str y) = decide (x = y) := by
    by_cases h : x = y
    · rw [h, decide_eq_true rfl, decide_eq_true rfl]
    · rw [decide_eq_false h, decide_eq_false (fun z => h (V.str.inj z))]
  rw [e]
  exact q⟩
abbrev s_in_run : Stmt := topS 19
theorem sc_in_run : FnScope ["character"] ["character"] (defScope s_in_run) := ⟨rfl, rfl, rfl, by decide +kernel, rfl, by decide +kernel, by decide +kernel⟩
abbrev p_in_run : List Str := ["character"]
abbrev s_comment_end : Stmt := topS 17
theorem sc_comment_end : FnScope ["text", "at", "end"] ["text", "at"] (defScope s_comment_end) := ⟨rfl, rfl, rfl, by decide +kernel, rfl, by decide +kernel, by decide +kernel⟩
abbrev p_comment_end : List Str := ["text", "at"]
abbrev s_part_at : Stmt := topS 18
theorem sc_part_at : FnScope ["text", "at", "end", "sign"] ["text", "at"] (defScope s_part_at) := ⟨rfl, rfl, rfl, by decide +kernel, rfl, by decide +kernel, by decide +kernel⟩
abbrev p_part_at : List Str := ["text", "at"]
abbrev s_is_reserved : Stmt := topS 16
theorem sc_is_reserved : FnScope ["name"] ["name"] (defScope s_is_reserved) := ⟨rfl, rfl, rfl, by decide +kernel, rfl, by decide +kernel, by decide +kernel⟩
abbrev p_is_reserved : List Str := ["name"]
abbrev s_is_name : Stmt := topS 21
theorem sc_is_name : FnScope ["part"] ["part"] (defScope s_is_name) := ⟨rfl, rfl, rfl, by decide +kernel, rfl, by decide +kernel, by decide +kernel⟩
abbrev p_is_name : List Str := ["part"]
abbrev s_all_digits : Stmt := topS 23
theorem sc_all_digits : FnScope ["part", "character"] ["part"] (defScope s_all_digits) := ⟨rfl, rfl, rfl, by decide +kernel, rfl, by decide +kernel, by decide +kernel⟩
abbrev p_all_digits : List Str := ["part"]
abbrev s_is_number : Stmt := topS 22
theorem sc_is_number : FnScope ["part"] ["part"] (defScope s_is_number) := ⟨rfl, rfl, rfl, by decide +kernel, rfl, by decide +kernel, by decide +kernel⟩
abbrev p_is_number : List Str := ["part"]
abbrev s_token_of : Stmt := topS 20
theorem sc_token_of : FnScope ["part", "line"] ["part", "line"] (defScope s_token_of) := ⟨rfl, rfl, rfl, by decide +kernel, rfl, by decide +kernel, by decide +kernel⟩
abbrev p_token_of : List Str := ["part", "line"]
abbrev s_tokenize : Stmt := topS 15
theorem sc_tokenize : FnScope ["text", "found", "line", "at", "part"] ["text"] (defScope s_tokenize) := ⟨rfl, rfl, rfl, by decide +kernel, rfl, by decide +kernel, by decide +kernel⟩
abbrev p_tokenize : List Str := ["text"]
def sp_run : Sp := fun vs H Q _ => ∃ c : Nat, vs = [.str (Tx [c])] ∧ Q (.bl (runC c)) H
theorem ok_run (T : Glo K mg) (D : Dn K mg "in_run" s_in_run p_in_run) : Cal P w K mg base "in_run" 1 p_in_run sp_run := by
  refine D.ok sc_in_run (fun vs H Q E h => ?_) (fun f cdv A outer s H vs Q E hr h => ?_)
  · obtain ⟨_, rfl, _⟩ := h
    rfl
  obtain ⟨c, rfl, q⟩ := h
  refine ⟨_, (pss_one (ps_ret (pe_or (pe_cmpR op_inS (pv 0) (pe_globS rfl T.c_LETTERS) (by rfl)) (pe_or (pe_cmpR op_inS (pv 0) (pe_globS rfl T.c_DIGITS) (by rfl)) (pe_one (pe_cmpR (op_eqA (hu64 hr)) (pv 0) pe_str (nomark _))))))), ?_⟩
  try dsimp only [cxOf, Cx.nox]
  repeat' walk_at "st"
  refine q_inSY ?_
  unfold runC at q
  by_cases h1 : c ∈ LET
  · rw [decide_eq_true h1] at q ⊢
    repeat' walk_at "st"
  · rw [decide_eq_false h1] at q ⊢
    repeat' walk_at "st"
    refine q_inSY ?_
    by_cases h2 : c ∈ DIG
    · rw [decide_eq_true h2] at q ⊢
      repeat' walk_at "st"
    · rw [decide_eq_false h2] at q ⊢
      repeat' walk_at "st"
      · rename_i e
        rw [decide_eq_true (by have := T_inj (a := [c]) (b := [95]) e; simpa using this)] at q
        exact q
      · rename_i e
        rw [decide_eq_false (fun z => e (by rw [z]; decide +kernel))] at q
        exact q
theorem c_run {c : Nat} {H : Hp} {Q : VK} {E : XK} (q : Q (.bl (runC c)) H) : sp_run [.str (Tx [c])] H Q E := ⟨c, rfl, q⟩
def sp_cend : Sp := fun vs H Q _ => ∃ (a : List Nat) (k : Nat), vs = [.str (Tx a), .int k] ∧ k ≤ a.length ∧ a.length ≤ 100000 ∧ Q (.int ((k + (restNl (a.drop k)).length : Nat) : Int)) H
theorem ok_cend (T : Glo K mg) (D : Dn K mg "comment_end" s_comment_end p_comment_end) : Cal P w K mg base "comment_end" 1 p_comment_end sp_cend := by
  refine D.ok sc_comment_end (fun vs H Q E h => ?_) (fun f cdv A outer s H vs Q E hr h => ?_)
  · obtain ⟨_, _, rfl, _⟩ := h
    rfl
  obtain ⟨a, k, rfl, hk, hl, q⟩ := h
  refine ⟨_, (pss_cons (ps_set (i := 2) sc_comment_end.nd rfl (by first | exact Or.inl rfl | exact Or.inr rfl) (pe_bm PySem.F.plainAttrs_str PySem.F.slot_str_find PySem.F.type_str_find mt_find3A (pv 0) (pa_cons pe_str (pa_cons (pv 1) pa_nil)))) (pss_one (ps_ret (pe_ifExp (pt_cmpR op_lt (pv 2) pe_int (nomark _)) (pe_callB call_lenA rfl T.n_len (by decide +kernel) (pa_cons (pv 0) pa_nil)) (pv 2))))), ?_⟩
  try dsimp only [cxOf, Cx.nox]
  repeat' walk_at "st"
  refine q_tyS ?_
  repeat' walk_at "st"
  refine q_find3 ?_
  have hf := find_nl hk
  have e10 : (Str.ofString "\n") = Tx [10] := by decide +kernel
  rw [e10]
  rcases hf with ⟨e, e2⟩ | ⟨e, e2⟩
  · rw [e]
    repeat' walk_at "st"
    refine q_lenS (by rw [T_len]; exact hl) ?_
    rw [e2, List.length_drop] at q
    rw [T_len]
    have e3 : k + (a.length - k) = a.length := by omega
    rw [e3] at q
    exact q
  · rw [e]
    repeat' walk_at "st"
theorem c_cend {a : List Nat} {k : Nat} {H : Hp} {Q : VK} {E : XK} (h1 : k ≤ a.length) (h2 : a.length ≤ 100000) (q : Q (.int ((k + (restNl (a.drop k)).length : Nat) : Int)) H) : sp_cend [.str (Tx a), .int k] H Q E := ⟨a, k, rfl, h1, h2, q⟩
def sp_part : Sp := fun vs H Q _ => ∃ (a : List Nat) (k : Nat), vs = [.str (Tx a), .int k] ∧ k < a.length ∧ a.length ≤ 100000 ∧ Q (.str (Tx (partL (a.drop k)))) H
theorem tw_app {c : Nat} {z : List Nat} (hc : runC c = false) : ∀ {p : List Nat}, (∀ x ∈ p, runC x = true) → (p ++ c :: z).takeWhile runC = p
  | [], _ => by rw [List.nil_append, List.takeWhile_cons, if_neg (by rw [hc]; decide)]
  | x :: p, hj => by rw [List.cons_append, List.takeWhile_cons, if_pos (hj x (List.mem_cons_self ..)), tw_app hc fun y hy => hj y (List.mem_cons_of_mem _ hy)]
theorem find_first {l : List Str} {r : List Nat} {i : Nat} {s : Str} (h : l[i]? = some s) (hs : s.cps.toList.isPrefixOf r = true) (hb : ∀ z ∈ l.take i, z.cps.toList.isPrefixOf r = false) : (l.find? fun s => s.cps.toList.isPrefixOf r) = some s := by
  have e : l = l.take i ++ s :: l.drop (i + 1) := by
    have hl := (List.getElem?_eq_some_iff.mp h).1
    rw [List.getElem?_eq_getElem hl] at h
    rw [← Option.some.inj h, ← List.drop_eq_getElem_cons hl, List.take_append_drop]
  rw [e, List.find?_append, List.find?_eq_none.mpr (fun z hz => by rw [hb z hz]; decide), Option.none_or, List.find?_cons, hs]
theorem run_next {r : List Nat} {j : Nat} {c : Nat} (h : r[j]? = some c) (hj : ∀ x ∈ r.take j, runC x = true) : (runC c = true → ∀ x ∈ r.take (j + 1), runC x = true) ∧ (runC c = false → (r.takeWhile runC) = r.take j) := by
  refine ⟨fun hc x hx => ?_, fun hc => ?_⟩
  · rw [List.take_add_one, h, List.mem_append] at hx
    rcases hx with hx | hx
    · exact hj x hx
    · simp at hx
      rw [hx]
      exact hc
  · have e : r = r.take j ++ r.drop j := (List.take_append_drop j r).symm
    have hd : r.drop j = c :: r.drop (j + 1) := by
      have hl := (List.getElem?_eq_some_iff.mp h).1
      rw [List.drop_eq_getElem_cons hl]
      rw [List.getElem?_eq_getElem hl] at h
      rw [Option.some.inj h]
    have hp : (r.take j).length = j := by
      have := (List.getElem?_eq_some_iff.mp h).1
      rw [List.length_take]
      omega
    rw [e]
    generalize r.take j = p at hj hp
    rw [hd]
    generalize r.drop (j + 1) = z
    clear e hd h
    rw [tw_app hc hj, ← hp, List.take_append_of_le_length (Nat.le_refl _), List.take_length]
theorem run_end {r : List Nat} {j : Nat} (hl : r.length ≤ j) (hj : ∀ x ∈ r.take j, runC x = true) : r.takeWhile runC = r.take j := by
  rw [List.take_of_length_le hl] at hj ⊢
  induction r with
  | nil => rfl
  | cons x p ih =>
    rw [List.takeWhile_cons, if_pos (hj x (List.mem_cons_self ..)), ih (by rw [List.length_cons] at hl; omega) fun y hy => hj y (List.mem_cons_of_mem _ hy)]
theorem cut_S {a : List Nat} {i j : Nat} (hi : i ≤ j) (hj : j ≤ a.length) : cutS (Tx a) (some (i : Int)) (some (j : Int)) = Tx ((a.drop i).take (j - i)) := by
  unfold cutS
  rw [show HT.sIx (Tx a).length 0 (some (i : Int)) = min i (Tx a).length from HT.sIx_nat _ 0 i, show HT.sIx (Tx a).length (Tx a).length (some (j : Int)) = min j (Tx a).length from HT.sIx_nat _ _ j, T_len, Nat.min_eq_left hj, Nat.min_eq_left (Nat.le_trans hi hj)]
theorem start_S {a : List Nat} {z : Str} {k : Nat} (hk : k ≤ a.length) : Txt.startswith3 (Tx a) z (k : Int) = z.cps.toList.isPrefixOf (a.drop k) := by
  unfold Txt.startswith3
  rw [fi, StrLaws.subAt_eq, T_tl]
  have hlen := T_len a
  have hz : z.length = z.cps.toList.length := by simp [Str.length]
  simp only [hz]
  generalize z.cps.toList = p
  rw [Bool.eq_iff_iff, Bool.and_eq_true, decide_eq_true_eq, beq_iff_eq, List.isPrefixOf_iff_prefix]
  constructor
  · rintro ⟨_, h⟩
    rw [← h]
    exact List.take_prefix _ _
  · intro h
    have h1 := h.length_le
    rw [List.length_drop] at h1
    exact ⟨by rw [hlen]; omega, (List.prefix_iff_eq_take.mp h).symm⟩
theorem q_start3 {a b : Str} {i : Int} {H : Hp} {Q : VK} (q : Q (.bl (Txt.startswith3 a b i)) H) : rStart3 (.str a) [.str b, .int i] H Q := ⟨a, b, i, rfl, rfl, q⟩
theorem q_ixS {z : Str} {i : Int} {c : Nat} {H : Hp} {Q : VK} (hl : z.length ≤ 100000) (h : atI z.cps.toList i = some c) (q : Q (.str (Tx [c])) H) : rIx K (.str z) (.int i) H Q := .inr (.inr ⟨z, i, c, rfl, rfl, sl1000 hl, h, q⟩)
theorem q_slS {z : Str} {lo hi : Option Int} {H : Hp} {Q : VK} (hl : z.length ≤ 100000) (q : Q (.str (cutS z lo hi)) H) : rSlS (.str z) lo hi H Q := ⟨z, rfl, sl1000 hl, q⟩
theorem mo_tB {a : TE} (ha : MoE a) : MoT (tB a) := fun σ H Q Q' k h => ha _ _ _ _ (fun x H1 ⟨c, e, q⟩ => ⟨c, e, k _ _ q⟩) h
theorem mo_call {sp : Sp} {a : TA} (hs : ∀ vs H (Q Q' : VK) E, (∀ v H1, Q v H1 → Q' v H1) → sp vs H Q E → sp vs H Q' E) (ha : MoA a) : MoE (tCall sp [] E0 a) := fun σ H Q Q' k h => ha _ _ _ _ (fun vs H1 q => hs _ _ _ _ _ k q) h
theorem mo_sprun : ∀ vs H (Q Q' : VK) E, (∀ v H1, Q v H1 → Q' v H1) → sp_run vs H Q E → sp_run vs H Q' E := fun _ _ _ _ _ k ⟨c, e, q⟩ => ⟨c, e, k _ _ q⟩
theorem ok_part (T : Glo K mg) (D : Dn K mg "part_at" s_part_at p_part_at) (G_in_run : Cal P w K mg base "in_run" 1 p_in_run sp_run) : Cal P w K mg base "part_at" 2 p_part_at sp_part := by
  refine D.ok sc_part_at (fun vs H Q E h => ?_) (fun f cdv A outer s H vs Q E hr h => ?_)
  · obtain ⟨_, _, rfl, _⟩ := h
    rfl
  obtain ⟨a, k, rfl, hk, hl, q⟩ := h
  obtain ⟨a_SIGNS, g_SIGNS, q_SIGNS⟩ := T.c_SIGNS
  refine ⟨_, (pss_cons (ps_set (i := 2) sc_part_at.nd rfl (by first | exact Or.inl rfl | exact Or.inr rfl) (pv 1)) (pss_cons (ps_while PassesOwn.never (PW.pt (pw_and (pt_cmpR op_lt (pv 2) (pe_callB call_lenA rfl T.n_len (by decide +kernel) (pa_cons (pv 0) pa_nil)) (nomark _)) (pw_and1 (pt_val (pe_cal G_in_run (hr.mono (by walk_at "lev")) rfl (pa_cons (pe_ix ix_seq (pv 0) (pv 2) (fun _ _ => rfl)) pa_nil)))))) (pss_one (ps_aug (i := 2) sc_part_at.nd rfl (by first | exact Or.inl rfl | exact Or.inr rfl) pe_int ip_add))) (pss_cons (ps_if (pt_cmpR op_gt (pv 2) (pv 1) (nomark _)) (pss_one (ps_ret (pe_slice sl_str (pv 0) (po_some (pv 1)) (po_some (pv 2))))) pss_nil) (pss_cons (ps_for PassesOwn.never rfl (pi_tup (pe_globR rfl g_SIGNS)) (pg_name (i := 3) sc_part_at.nd rfl (by first | exact Or.inl rfl | exact Or.inr rfl)) (pss_one (ps_if (pt_val (pe_bm PySem.F.plainAttrs_str PySem.F.slot_str_startswith PySem.F.type_str_startswith mt_start3A (pv 0) (pa_cons (pv 3) (pa_cons (pv 1) pa_nil)))) (pss_one (ps_ret (pv 3))) pss_nil))) (pss_one (ps_ret (pe_ix ix_seq (pv 0) (pv 1) (fun _ _ => rfl)))))))), ?_⟩
  try dsimp only [cxOf, Cx.nox]
  repeat' walk_at "st"
  refine w_while (fun m σ H' => H' = H ∧ ∃ j : Nat, m = a.length - (k + j) ∧ k + j ≤ a.length ∧ σ = [some (.str (Tx a)), some (.int k), some (.int ((k + j : Nat) : Int)), none] ∧ ∀ x ∈ (a.drop k).take j, runC x = true) (a.length - k) ⟨rfl, 0, by omega, by omega, rfl, by simp⟩ ?_ ?_
  · rintro m σ H' ⟨rfl, j, rfl, hj, rfl, hr'⟩
    repeat' walk_at "st"
    refine q_lenS (by rw [T_len]; exact hl) ?_
    rw [T_len]
    by_cases hlt : k + j < a.length
    · have hc : (a.drop k)[j]? = some a[k + j] := by rw [List.getElem?_drop, List.getElem?_eq_getElem hlt]
      have hat : atI (Tx a).cps.toList ((k + j : Nat) : Int) = some a[k + j] := atI_nat (List.getElem?_eq_getElem hlt)
      have nx := run_next hc hr'
      repeat' walk_at "st"
      refine q_ixS (by rw [T_len]; exact hl) hat ?_
      repeat' walk_at "st"
      refine ⟨_, rfl, ?_⟩
      repeat' walk_at "st"
      cases hb : runC a[k + j]
      · have htw := nx.2 hb
        by_cases j0 : j = 0
        · subst j0
          have hd : a.drop k = a[k] :: a.drop (k + 1) := List.drop_eq_getElem_cons hk
          have htw0 : (a.drop k).takeWhile runC = [] := htw
          repeat' walk_at "st"
          refine ⟨a_SIGNS, rfl, ⟨_, q_SIGNS.sq⟩, ?_⟩
          refine w_tup (xs := SIG.map V.str) (fun i σ H2 => H2 = H' ∧ ∃ y, σ = [some (.str (Tx a)), some (.int k), some (.int ((k + 0 : Nat) : Int)), y] ∧ ∀ z ∈ SIG.take i, z.cps.toList.isPrefixOf (a.drop k) = false) ⟨rfl, none, rfl, by simp⟩ ?_ ?_ ?_
          · rintro i σ H2 _ ⟨rfl, _⟩
            exact q_SIGNS.sq
          · rintro i x σ H2 hx ⟨rfl, y, rfl, hb⟩
            rw [List.getElem?_map] at hx
            obtain ⟨z, hz, rfl⟩ := Option.map_eq_some_iff.mp hx
            repeat' walk_at "st"
            refine q_tyS ?_
            repeat' walk_at "st"
            refine q_start3 ?_
            rw [start_S (Nat.le_of_lt hk)]
            refine ⟨_, rfl, ?_⟩
            cases hp : z.cps.toList.isPrefixOf (a.drop k)
            · refine iteF ?_
              repeat' walk_at "st"
              refine ⟨rfl, _, rfl, fun u hu => ?_⟩
              rw [List.take_add_one, hz, List.mem_append] at hu
              rcases hu with hu | hu
              · exact hb u hu
              · simp at hu
                rw [hu]
                exact hp
            · refine iteT ?_
              have hf := find_first hz hp hb
              unfold partL at q
              rw [if_pos htw0, hf] at q
              repeat' walk_at "st"
          · rintro σ H2 ⟨rfl, y, rfl, hb⟩
            have hf : (SIG.find? fun s => s.cps.toList.isPrefixOf (a.drop k)) = none := List.find?_eq_none.mpr fun z hz => by
              rw [hb z (by rw [List.length_map, List.take_length]; exact hz)]
              decide
            unfold partL at q
            rw [if_pos htw0, hf, hd] at q
            repeat' walk_at "st"
            exact q_ixS (by rw [T_len]; exact hl) (atI_nat (List.getElem?_eq_getElem hk)) q
        · have hne : (a.drop k).takeWhile runC ≠ [] := by
            rw [htw]
            intro e
            have := congrArg List.length e
            rw [List.length_take, List.length_drop, List.length_nil] at this
            omega
          unfold partL at q
          rw [if_neg hne, htw] at q
          repeat' walk_at "st"
          refine q_slS (by rw [T_len]; exact hl) ?_
          rw [cut_S (by omega) hj, show k + j - k = j by omega]
          exact q
      · repeat' walk_at "st"
        exact ⟨_, by omega, rfl, j + 1, rfl, by omega, rfl, nx.1 hb⟩
    · have htw := run_end (r := a.drop k) (j := j) (by rw [List.length_drop]; omega) hr'
      have hne : (a.drop k).takeWhile runC ≠ [] := by
        rw [htw]
        intro e
        have := congrArg List.length e
        rw [List.length_take, List.length_drop, List.length_nil] at this
        omega
      unfold partL at q
      rw [if_neg hne, htw] at q
      repeat' walk_at "st"
      refine q_slS (by rw [T_len]; exact hl) ?_
      rw [cut_S (by omega) hj, show k + j - k = j by omega]
      exact q
  · intro σ H Q Q' hQ h
    exact mo_and (mo_test (mo_op mo_I0 mo_var (mo_cb mo_lenA (mo_cons mo_var mo_nil)))) (mo_tB (mo_call mo_sprun (mo_cons (mo_op mo_ix mo_var mo_var) mo_nil))) _ _ _ _ hQ h
theorem c_part {a : List Nat} {k : Nat} {H : Hp} {Q : VK} {E : XK} (h1 : k < a.length) (h2 : a.length ≤ 100000) (q : Q (.str (Tx (partL (a.drop k)))) H) : sp_part [.str (Tx a), .int k] H Q E := ⟨a, k, rfl, h1, h2, q⟩
theorem inV_strs {z : Str} : ∀ l : List Str, inV (.str z) (l.map V.str) = decide (z ∈ l)
  | [] => rfl
  | s :: l => by
    have ih := inV_strs (z := z) l
    unfold inV at ih ⊢
    rw [List.map_cons, List.any_cons, ih]
    by_cases e : s = z
    · simp [eqV, e]
    · simp [eqV, e, Ne.symm e]
theorem flat_strs : ∀ l : List Str, (l.map V.str).all flatV = true
  | [] => rfl
  | s :: l => by rw [List.map_cons, List.all_cons, flat_strs l]; rfl
theorem q_inStrs {z : Str} {l : List Str} {p : Addr} {H : Hp} {Q : VK} (h : SqT K H p (l.map V.str)) (q : Q (.bl (decide (z ∈ l))) H) : rIn K false (.str z) (.ref p) H Q :=
  ⟨p, _, rfl, .inr h, rfl, flat_strs l, by rw [if_neg Bool.false_ne_true, inV_strs]; exact q⟩
def sp_res : Sp := fun vs H Q _ => ∃ z : Str, vs = [.str z] ∧ Q (.bl (decide (z ∈ RES))) H
theorem ok_res (T : Glo K mg) (D : Dn K mg "is_reserved" s_is_reserved p_is_reserved) : Cal P w K mg base "is_reserved" 1 p_is_reserved sp_res := by
  refine D.ok sc_is_reserved (fun vs H Q E h => ?_) (fun f cdv A outer s H vs Q E hr h => ?_)
  · obtain ⟨_, rfl, _⟩ := h
    rfl
  obtain ⟨z, rfl, q⟩ := h
  obtain ⟨a_RESERVED, g_RESERVED, q_RESERVED⟩ := T.c_RESERVED
  refine ⟨_, (pss_one (ps_ret (pe_cmpR op_in_seq (pv 0) (pe_globR rfl g_RESERVED) (by rfl)))), ?_⟩
  try dsimp only [cxOf, Cx.nox]
  repeat' walk_at "st"
  exact q_inStrs q_RESERVED.sq q
theorem c_res {z : Str} {H : Hp} {Q : VK} {E : XK} (q : Q (.bl (decide (z ∈ RES))) H) : sp_res [.str z] H Q E := ⟨z, rfl, q⟩
def sp_name : Sp := fun vs H Q _ => ∃ (c : Nat) (r : List Nat), vs = [.str (Tx (c :: r))] ∧ (c :: r).length ≤ 100000 ∧ Q (.bl (decide (c ∈ LET) && decide ((c :: r).length ≤ 16))) H
theorem ok_name (T : Glo K mg) (D : Dn K mg "is_name" s_is_name p_is_name) : Cal P w K mg base "is_name" 1 p_is_name sp_name := by
  refine D.ok sc_is_name (fun vs H Q E h => ?_) (fun f cdv A outer s H vs Q E hr h => ?_)
  · obtain ⟨_, _, rfl, _⟩ := h
    rfl
  obtain ⟨c, r, rfl, hl, q⟩ := h
  refine ⟨_, (pss_one (ps_ret (pe_and (pe_cmpR op_inS (pe_ix ix_seq (pv 0) pe_int (fun _ _ => rfl)) (pe_globS rfl T.c_LETTERS) (by rfl)) (pe_one (pe_cmpR op_le (pe_callB call_lenA rfl T.n_len (by decide +kernel) (pa_cons (pv 0) pa_nil)) (pe_globC rfl T.c_LONGEST_NAME) (nomark _)))))), ?_⟩
  try dsimp only [cxOf, Cx.nox]
  repeat' walk_at "st"
  refine q_ixS (by rw [T_len]; exact hl) at0 ?_
  repeat' walk_at "st"
  refine q_inSY ?_
  by_cases h1 : c ∈ LET
  · rw [decide_eq_true h1] at q ⊢
    repeat' walk_at "st"
    refine q_lenS (by rw [T_len]; exact hl) ?_
    rw [T_len]
    repeat' walk_at "st"
    · rename_i e
      rw [decide_eq_true (show (c :: r).length ≤ 16 by omega)] at q
      exact q
    · rename_i e
      rw [decide_eq_false (show ¬ (c :: r).length ≤ 16 by omega)] at q
      exact q
  · rw [decide_eq_false h1] at q ⊢
    repeat' walk_at "st"
theorem c_name {c : Nat} {r : List Nat} {H : Hp} {Q : VK} {E : XK} (h : (c :: r).length ≤ 100000) (q : Q (.bl (decide (c ∈ LET) && decide ((c :: r).length ≤ 16))) H) : sp_name [.str (Tx (c :: r))] H Q E := ⟨c, r, rfl, h, q⟩
theorem numL_head : ∀ {n : Nat} {c : Nat} {r : List Nat}, 0 < n → TL.numL n = c :: r → c ≠ 48 := by
  intro n
  induction n using Nat.strongRecOn with
  | _ n ih =>
    intro c r hn e
    by_cases h : n < 10
    · rw [TL.numL_lt h] at e
      cases e
      omega
    · rw [TL.numL_step (by omega)] at e
      cases hq : TL.numL (n / 10) with
      | nil => exact absurd hq (TL.numL_ne _)
      | cons d t =>
        rw [hq] at e
        cases e
        exact ih (n / 10) (by omega) (by omega) hq
theorem dig_mem {c : Nat} (h : 48 ≤ c ∧ c ≤ 57) : c ∈ DIG := by
  have : ∀ c, c < 58 → 48 ≤ c → c ∈ DIG := by decide +kernel
  exact this c (by omega) h.1
theorem numL_dig (n : Nat) : ∀ c ∈ TL.numL n, c ∈ DIG := fun c hc => dig_mem (by
  have := TL.numL_digits n c hc
  omega)
inductive TokOf : List Nat → Str → V → Prop
  | sign {z : Str} : z ∈ SIG → TokOf z.cps.toList "sign" (.str z)
  | word {z : Str} : z ∈ RES → TokOf z.cps.toList "word" (.str z)
  | name {c : Nat} {r : List Nat} : c ∈ LET → (c :: r).length ≤ 16 → Tx (c :: r) ∉ RES → TokOf (c :: r) "name" (.str (Tx (c :: r)))
  | num {n : Nat} : n < 65536 → TokOf (TL.numL n) "number" (.int n)
theorem sig_heads : (SIG.all fun z => match z.cps.toList with | c :: _ => !decide (c ∈ LET) && !decide (c ∈ DIG) | [] => false) = true := by decide +kernel
theorem res_heads : (RES.all fun z => !decide (z ∈ SIG) && (match z.cps.toList with | c :: _ => decide (c ∈ LET) && decide (z.cps.toList.length ≤ 16) | [] => false)) = true := by decide +kernel
theorem let_dig : (LET.all fun c => !decide (c ∈ DIG)) = true := by decide +kernel
theorem not_sig {c : Nat} {r : List Nat} (h : c ∈ LET ∨ c ∈ DIG) : Tx (c :: r) ∉ SIG := fun hm => by
  have := List.all_eq_true.mp sig_heads _ hm
  rcases h with h | h <;> simp [h] at this
theorem dig_not_let {c : Nat} (h : c ∈ DIG) : c ∉ LET := fun hl => by
  have := List.all_eq_true.mp let_dig _ hl
  simp [h] at this
theorem num_not_res {c : Nat} {r : List Nat} (h : c ∈ DIG) : Tx (c :: r) ∉ RES := fun hm => by
  have := List.all_eq_true.mp res_heads _ hm
  simp [dig_not_let h] at this
/-! ### parts that are none, and the roads that refuse -/
def sp_digsB : Sp := fun vs H Q _ => ∃ p : List Nat, vs = [.str (Tx p)] ∧ ((∀ c ∈ p, c ∈ DIG) → Q (.bl true) H) ∧ (¬ (∀ c ∈ p, c ∈ DIG) → Q (.bl false) H)
theorem ok_digsB (T : Glo K mg) (D : Dn K mg "all_digits" s_all_digits p_all_digits) : Cal P w K mg base "all_digits" 1 p_all_digits sp_digsB := by
  refine D.ok sc_all_digits (fun vs H Q E h => ?_) (fun f cdv A outer s H vs Q E hr h => ?_)
  · obtain ⟨_, rfl, _⟩ := h
    rfl
  obtain ⟨p, rfl, q1, q2⟩ := h
  refine ⟨_, (pss_cons (ps_for PassesOwn.never rfl (pi_str (pv 0)) (pg_name (i := 1) sc_all_digits.nd rfl (by first | exact Or.inl rfl | exact Or.inr rfl)) (pss_one (ps_if (pt_cmpR op_notInS (pv 1) (pe_globS rfl T.c_DIGITS) (by rfl)) (pss_one (ps_ret pe_bl)) pss_nil))) (pss_one (ps_ret pe_bl))), ?_⟩
  try dsimp only [cxOf, Cx.nox]
  repeat' walk_at "st"
  refine w_str (fun i σ H2 => H2 = H ∧ (∃ y, σ = [some (.str (Tx p)), y]) ∧ ∀ c ∈ p.take i, c ∈ DIG) ⟨rfl, ⟨none, rfl⟩, by simp⟩ ?_ ?_
  · rintro i c σ H2 hc ⟨rfl, ⟨y, rfl⟩, hd⟩
    have hc' : p[i]? = some c := hc
    repeat' walk_at "st"
    refine q_notInSY ?_
    by_cases hm : c ∈ DIG
    · rw [decide_eq_true hm]
      repeat' walk_at "st"
      refine ⟨rfl, ⟨_, rfl⟩, fun x hx => ?_⟩
      rw [List.take_add_one, hc', List.mem_append] at hx
      rcases hx with hx | hx
      · exact hd x hx
      · simp at hx
        rw [hx]
        exact hm
    · rw [decide_eq_false hm]
      repeat' walk_at "st"
      exact q2 fun h => hm (h c (List.mem_of_getElem? hc'))
  · rintro σ H2 ⟨rfl, ⟨y, rfl⟩, hd⟩
    repeat' walk_at "st"
    refine q1 fun c hc => hd c ?_
    have e : (Tx p).cps.toList.length = p.length := rfl
    rw [e, List.take_length]
    exact hc
theorem c_digsB {p : List Nat} {H : Hp} {Q : VK} {E : XK} (q1 : (∀ c ∈ p, c ∈ DIG) → Q (.bl true) H) (q2 : ¬ (∀ c ∈ p, c ∈ DIG) → Q (.bl false) H) : sp_digsB [.str (Tx p)] H Q E := ⟨p, rfl, q1, q2⟩
theorem dig_val {c : Nat} (h : c ∈ DIG) : 48 ≤ c ∧ c ≤ 57 := by
  have : ∀ c ∈ DIG, 48 ≤ c ∧ c ≤ 57 := by decide +kernel
  exact this c h
/-- digits without a zero ahead are a number's -/
theorem num_of_digs : ∀ (m : Nat) (p : List Nat), p.length = m + 1 → (∀ c ∈ p, c ∈ DIG) → (∀ r, p ≠ 48 :: r) → ∃ n, 0 < n ∧ p = TL.numL n := by
  intro m
  induction m with
  | zero =>
    intro p hl hd h0
    match p, hl with
    | [c], _ =>
      have h1 := dig_val (hd c (List.mem_cons_self ..))
      have h2 : c ≠ 48 := fun e => h0 [] (by rw [e])
      refine ⟨c - 48, by omega, ?_⟩
      rw [TL.numL_lt (by omega)]
      congr 1
      omega
  | succ m ih =>
    intro p hl hd h0
    have hp : p ≠ [] := fun e => by rw [e] at hl; cases hl
    obtain ⟨q, d, rfl⟩ : ∃ q d, p = q ++ [d] := ⟨_, _, (List.dropLast_concat_getLast hp).symm⟩
    rw [List.length_append] at hl
    obtain ⟨n, n0, hn⟩ := ih q (by simpa using hl) (fun c hc => hd c (List.mem_append_left _ hc)) (fun r hr => h0 (r ++ [d]) (by rw [hr]; rfl))
    have h1 := dig_val (hd d (List.mem_append_right _ (List.mem_singleton.mpr rfl)))
    refine ⟨10 * n + (d - 48), by omega, ?_⟩
    rw [TL.numL_step (by omega), show (10 * n + (d - 48)) / 10 = n by omega, show 48 + (10 * n + (d - 48)) % 10 = d by omega, ← hn]
theorem q_intD {n : Nat} {H : Hp} {Q : VK} (h : (TL.numL n).length ≤ 600) (q : Q (.int n) H) : rIntS [.str (Tx (TL.numL n))] H Q := by
  have e := TL.int_num (n := n) (by omega)
  rw [SX.num_S] at e
  exact q_intS e (by rw [T_len]; omega) q
def isNum (p : List Nat) : Prop := ∃ n, n < 65536 ∧ p = TL.numL n
def sp_isnumB : Sp := fun vs H Q _ => ∃ (c : Nat) (r : List Nat), vs = [.str (Tx (c :: r))] ∧ (c :: r).length ≤ 100000 ∧ (isNum (c :: r) → Q (.bl true) H) ∧ (¬ isNum (c :: r) → Q (.bl false) H)
theorem ok_isnumB (T : Glo K mg) (D : Dn K mg "is_number" s_is_number p_is_number) (G_all_digits : Cal P w K mg base "all_digits" 1 p_all_digits sp_digsB) : Cal P w K mg base "is_number" 2 p_is_number sp_isnumB := by
  refine D.ok sc_is_number (fun vs H Q E h => ?_) (fun f cdv A outer s H vs Q E hr h => ?_)
  · obtain ⟨_, _, rfl, _⟩ := h
    rfl
  obtain ⟨c, r, rfl, hl, q1, q2⟩ := h
  refine ⟨_, (pss_cons (ps_if (pt_cmpR (op_eqA (hu64 hr)) (pv 0) pe_str (nomark _)) (pss_one (ps_ret pe_bl)) pss_nil) (pss_cons (ps_if (PW.pt (pw_or (pt_cmpR (op_eqA (hu64 hr)) (pe_ix ix_seq (pv 0) pe_int (fun _ _ => rfl)) pe_str (nomark _)) (pw_or1 (pt_cmpR op_gt (pe_callB call_lenA rfl T.n_len (by decide +kernel) (pa_cons (pv 0) pa_nil)) (pe_globC rfl T.c_LONGEST_NUMBER) (nomark _))))) (pss_one (ps_ret pe_bl)) pss_nil) (pss_one (ps_ret (pe_and (pe_cal G_all_digits (hr.mono (by walk_at "lev")) rfl (pa_cons (pv 0) pa_nil)) (pe_one (pe_cmpR op_le (pe_callTy call_intS rfl T.n_int (by decide +kernel) (pa_cons (pv 0) pa_nil)) (pe_globC rfl T.c_GREATEST_WORD) (nomark _)))))))), ?_⟩
  try dsimp only [cxOf, Cx.nox]
  have n5 : ∀ n, n < 65536 → (TL.numL n).length ≤ 5 := fun n hn => TL.numL_len (n := n) (k := 5) (by decide) (by omega)
  repeat' walk_at "st"
  · rename_i e
    have e' : c :: r = [48] := T_inj (a := c :: r) (b := [48]) e
    refine q1 ⟨0, by decide, ?_⟩
    rw [e']
    decide +kernel
  · rename_i e0
    refine q_ixS (by rw [T_len]; exact hl) at0 ?_
    repeat' walk_at "st"
    · rename_i e
      have e' : c = 48 := by have := T_inj (a := [c]) (b := [48]) e; simpa using this
      refine q2 ?_
      rintro ⟨n, hn, hq⟩
      by_cases h0 : n = 0
      · subst h0
        refine e0 ?_
        rw [hq]
        decide +kernel
      · exact numL_head (Nat.pos_of_ne_zero h0) hq.symm e'
    · rename_i e
      have n48 : c ≠ 48 := fun z => e (by rw [z]; decide +kernel)
      refine q_lenS (by rw [T_len]; exact hl) ?_
      rw [T_len]
      repeat' walk_at "st"
      · rename_i h5
        refine q2 ?_
        rintro ⟨n, hn, hq⟩
        have := n5 n hn
        rw [← hq] at this
        omega
      · rename_i h5
        refine c_digsB (fun hd => ?_) (fun hd => ?_)
        · obtain ⟨n, n0, hn⟩ := num_of_digs r.length (c :: r) (by rw [List.length_cons]) hd (fun r' hr' => n48 (by cases hr'; rfl))
          repeat' walk_at "st"
          rw [hn]
          refine q_intD (by rw [← hn]; omega) ?_
          repeat' walk_at "st"
          · rename_i hle
            exact q1 ⟨n, by omega, hn⟩
          · rename_i hle
            refine q2 ?_
            rintro ⟨k, hk, hq⟩
            have := TL.numL_inj (hn.symm.trans hq)
            omega
        · repeat' walk_at "st"
          refine q2 ?_
          rintro ⟨n, hn, hq⟩
          exact hd (by rw [hq]; exact numL_dig n)
theorem c_isnumB {c : Nat} {r : List Nat} {H : Hp} {Q : VK} {E : XK} (hl : (c :: r).length ≤ 100000) (q1 : isNum (c :: r) → Q (.bl true) H) (q2 : ¬ isNum (c :: r) → Q (.bl false) H) : sp_isnumB [.str (Tx (c :: r))] H Q E := ⟨c, r, rfl, hl, q1, q2⟩
/-- no token -/
def NoTok (p : List Nat) : Prop := Tx p ∉ SIG ∧ Tx p ∉ RES ∧ (∀ c r, p = c :: r → c ∈ LET → 16 < p.length) ∧ ¬ isNum p
abbrev s_TextError___init__ : Stmt := inClass (topS 2) 0
theorem sc_TextError___init__ : FnScope ["self", "line"] ["self", "line"] (defScope s_TextError___init__) := ⟨rfl, rfl, rfl, by decide +kernel, rfl, by decide +kernel, by decide +kernel⟩
abbrev p_TextError___init__ : List Str := ["self", "line"]
abbrev s_CommandError___init__ : Stmt := inClass (topS 6) 0
theorem sc_CommandError___init__ : FnScope ["self", "line"] ["self", "line"] (defScope s_CommandError___init__) := ⟨rfl, rfl, rfl, by decide +kernel, rfl, by decide +kernel, by decide +kernel⟩
abbrev p_CommandError___init__ : List Str := ["self", "line"]
abbrev s_RuleError___init__ : Stmt := inClass (topS 3) 0
theorem sc_RuleError___init__ : FnScope ["self", "rule"] ["self", "rule"] (defScope s_RuleError___init__) := ⟨rfl, rfl, rfl, by decide +kernel, rfl, by decide +kernel, by decide +kernel⟩
abbrev p_RuleError___init__ : List Str := ["self", "rule"]
abbrev s_PlanError___init__ : Stmt := inClass (topS 4) 0
theorem sc_PlanError___init__ : FnScope ["self", "reason"] ["self", "reason"] (defScope s_PlanError___init__) := ⟨rfl, rfl, rfl, by decide +kernel, rfl, by decide +kernel, by decide +kernel⟩
abbrev p_PlanError___init__ : List Str := ["self", "reason"]
abbrev s_CodeError___init__ : Stmt := inClass (topS 5) 0
theorem sc_CodeError___init__ : FnScope ["self", "at"] ["self", "at"] (defScope s_CodeError___init__) := ⟨rfl, rfl, rfl, by decide +kernel, rfl, by decide +kernel, by decide +kernel⟩
abbrev p_CodeError___init__ : List Str := ["self", "at"]
theorem ok_einit {x fl : Str} {C : Addr} (T : ErrC K mg x C fl) {q : Str} {st : Stmt} {N : List Str} (D : DnE K q C st N) (S : FnScope N N (defScope st)) (l2 : N.length = 2) (h0 : ∀ a b : V, start N [a, b] = [some a, some b])
    (hb : ∀ (f : Addr) (cdv : Value) (A : Around) (outer : List Env) (s : Shared) (H : Hp) (E : XK), PSs (cxOf CX0 P w K mg base N q (defScope st) f cdv A outer s H E).nox (defBody st) (tOst K fl (tVar 0) (tVar 1))) : MakE P w K mg base C 1 N (sp_einit C fl) := by
  refine D.ok S (fun vs H Q E h => ?_) (fun f cdv A outer s H vs Q E hr h => ?_)
  · obtain ⟨_, _, rfl, _⟩ := h
    rw [l2]
    rfl
  obtain ⟨a, v, rfl, ha, q⟩ := h
  refine ⟨_, hb f cdv A outer s H E, ?_⟩
  rw [h0]
  exact ⟨v, rfl, .ref a, rfl, a, C, rfl, T.ox, T.no, .inl ⟨ha, fun dx n ne => q dx n ne⟩⟩
variable {C : Addr}
def sp_tokenX (C : Addr) : Sp := fun vs H Q E => ∃ (p : List Nat) (n : Int), vs = [.str (Tx p), .int n] ∧ p.length ≤ 100000 ∧ p ≠ [] ∧ (∀ kd v, TokOf p kd v → ∀ q H', H q = none → Ex H H' → H' q = some (.tup [.str kd, v, .int n]) → Q (.ref q) H') ∧
  (NoTok p → ∀ d H', H d = none → Ex H H' → H' d = some (.xd [(("line" : Str), .int n)]) → E (.ref C) (some d) H')
theorem ok_tokenX (T : Glo K mg) (D : Dn K mg "token_of" s_token_of p_token_of) (G_is_reserved : Cal P w K mg base "is_reserved" 1 p_is_reserved sp_res) (G_is_name : Cal P w K mg base "is_name" 1 p_is_name sp_name) (G_is_number : Cal P w K mg base "is_number" 2 p_is_number sp_isnumB)
    (T_TextError : ErrC K mg "TextError" C "line") (M_TextError : MakE P w K mg base C 1 p_TextError___init__ (sp_einit C "line")) : CalX P w K mg base "token_of" 3 p_token_of (sp_tokenX C) := by
  refine D.okX sc_token_of (fun vs H Q E h => ?_) (fun f cdv A outer s H vs Q E hr h => ?_)
  · obtain ⟨_, _, rfl, _⟩ := h
    rfl
  obtain ⟨p, n, rfl, hl, hne, q, qe⟩ := h
  obtain ⟨a_SIGNS, g_SIGNS, q_SIGNS⟩ := T.c_SIGNS
  have tk := takes_def (P := P) (w := w) (K := K) (mg := mg) (base := base) (N := (["part", "line"] : List Str)) (x := "token_of") (sc := defScope s_token_of) (f := f) (cdv := cdv) (A := A) (outer := outer) (s := s) (H := H) (E := E)
  refine ⟨_, (pss_cons (ps_if (pt_cmpR op_in_seq (pv 0) (pe_globR rfl g_SIGNS) (by rfl)) (pss_one (ps_ret (pe_tup (pa_cons pe_str (pa_cons (pv 0) (pa_cons (pv 1) pa_nil)))))) pss_nil) (pss_cons (ps_if (pt_val (pe_cal G_is_reserved (hr.mono (by walk_at "lev")) rfl (pa_cons (pv 0) pa_nil))) (pss_one (ps_ret (pe_tup (pa_cons pe_str (pa_cons (pv 0) (pa_cons (pv 1) pa_nil)))))) pss_nil) (pss_cons (ps_if (pt_val (pe_cal G_is_name (hr.mono (by walk_at "lev")) rfl (pa_cons (pv 0) pa_nil))) (pss_one (ps_ret (pe_tup (pa_cons pe_str (pa_cons (pv 0) (pa_cons (pv 1) pa_nil)))))) pss_nil) (pss_cons (ps_if (pt_val (pe_cal G_is_number (hr.mono (by walk_at "lev")) rfl (pa_cons (pv 0) pa_nil))) (pss_one (ps_ret (pe_tup (pa_cons pe_str (pa_cons (pe_callTy call_intS rfl T.n_int (by decide +kernel) (pa_cons (pv 0) pa_nil)) (pa_cons (pv 1) pa_nil)))))) pss_nil) (pss_one (ps_err rfl tk T_TextError M_TextError (hr.mono (by walk_at "lev")) rfl (pa_cons (pv 1) pa_nil))))))), ?_⟩
  try dsimp only [cxOf]
  match p, hne with
  | c :: r, _ =>
  repeat' walk_at "st"
  refine q_inStrs q_SIGNS.sq ?_
  by_cases h1 : Tx (c :: r) ∈ SIG
  · rw [decide_eq_true h1]
    repeat' walk_at "st"
    exact q "sign" (.str (Tx (c :: r))) (.sign (z := Tx (c :: r)) h1) _ _ hp ke hn
  rw [decide_eq_false h1]
  repeat' walk_at "st"
  refine c_res ?_
  by_cases h2 : Tx (c :: r) ∈ RES
  · rw [decide_eq_true h2]
    repeat' walk_at "st"
    exact q "word" (.str (Tx (c :: r))) (.word (z := Tx (c :: r)) h2) _ _ hp ke hn
  rw [decide_eq_false h2]
  repeat' walk_at "st"
  refine c_name hl ?_
  by_cases h3 : c ∈ LET ∧ (c :: r).length ≤ 16
  · rw [decide_eq_true h3.1, decide_eq_true h3.2]
    repeat' walk_at "st"
    refine iteT ?_
    repeat' walk_at "st"
    exact q "name" (.str (Tx (c :: r))) (.name h3.1 h3.2 h2) _ _ hp ke hn
  have e3 : (decide (c ∈ LET) && decide ((c :: r).length ≤ 16)) = false := by
    rw [← Bool.decide_and]
    exact decide_eq_false h3
  rw [e3]
  repeat' walk_at "st"
  refine c_isnumB hl (fun h4 => ?_) (fun h4 => ?_)
  · obtain ⟨k, hk, ek⟩ := h4
    have hlk := TL.numL_len (n := k) (k := 5) (by decide) (by omega)
    repeat' walk_at "st"
    rw [ek]
    refine q_intN hk ?_
    repeat' walk_at "st"
    exact q "number" (.int k) (by rw [ek]; exact .num hk) _ _ hp ke hn
  · repeat' walk_at "st"
    exact qe ⟨h1, h2, fun c' r' e hc => by
      cases e
      exact Nat.lt_of_not_le fun hle => h3 ⟨hc, hle⟩, h4⟩
theorem c_tokenX {p : List Nat} {n : Int} {H : Hp} {Q : VK} {E : XK} (h1 : p.length ≤ 100000) (h2 : p ≠ []) (q : ∀ kd v, TokOf p kd v → ∀ q H', H q = none → Ex H H' → H' q = some (.tup [.str kd, v, .int n]) → Q (.ref q) H')
    (qe : NoTok p → ∀ d H', H d = none → Ex H H' → H' d = some (.xd [(("line" : Str), .int n)]) → E (.ref C) (some d) H') : sp_tokenX C [.str (Tx p), .int n] H Q E := ⟨p, n, rfl, h1, h2, q, qe⟩
/-! ### a text read to its end or to the first part that is none -/
inductive Lx : List Nat → Int → Option Int → Prop
  | nil {n : Int} : Lx [] n none
  | nl {r : List Nat} {n : Int} {o : Option Int} : Lx r (n + 1) o → Lx (10 :: r) n o
  | sp {r : List Nat} {n : Int} {o : Option Int} : Lx r n o → Lx (32 :: r) n o
  | cm {r : List Nat} {n : Int} {o : Option Int} : Lx (r.drop (restNl r).length) n o → Lx (35 :: r) n o
  | part {c : Nat} {r p rest : List Nat} {kd : Str} {v : V} {n : Int} {o : Option Int} : c ≠ 10 → c ≠ 32 → c ≠ 35 → partL (c :: r) = p → c :: r = p ++ rest → TokOf p kd v → Lx rest n o → Lx (c :: r) n o
  | bad {c : Nat} {r : List Nat} {n : Int} : c ≠ 10 → c ≠ 32 → c ≠ 35 → NoTok (partL (c :: r)) → Lx (c :: r) n (some n)
theorem Lx.inv {c : Nat} {r : List Nat} {n : Int} {o : Option Int} (h : Lx (c :: r) n o) (h1 : c ≠ 10) (h2 : c ≠ 32) (h3 : c ≠ 35) : (∃ (p rest : List Nat) (kd : Str) (v : V), partL (c :: r) = p ∧ c :: r = p ++ rest ∧ TokOf p kd v ∧ Lx rest n o) ∨ (NoTok (partL (c :: r)) ∧ o = some n) := by
  cases h with
  | nl => exact absurd rfl h1
  | sp => exact absurd rfl h2
  | cm => exact absurd rfl h3
  | part _ _ _ a b c d => exact .inl ⟨_, _, _, _, a, b, c, d⟩
  | bad _ _ _ a => exact .inr ⟨a, rfl⟩
theorem tokOf_pos {p : List Nat} {kd : Str} {v : V} (h : TokOf p kd v) : 0 < p.length := by
  cases h with
  | @sign z hz =>
    have : (SIG.all fun z => decide (0 < z.cps.toList.length)) = true := by decide +kernel
    simpa using List.all_eq_true.mp this z hz
  | @word z hz =>
    have : (RES.all fun z => decide (0 < z.cps.toList.length)) = true := by decide +kernel
    simpa using List.all_eq_true.mp this z hz
  | name => exact Nat.succ_pos _
  | @num n _ => exact List.length_pos_iff.mpr (TL.numL_ne n)
theorem not_both {p : List Nat} {kd : Str} {v : V} (h : TokOf p kd v) (n : NoTok p) : False := by
  obtain ⟨n1, n2, n3, n4⟩ := n
  cases h with
  | sign hz => exact n1 hz
  | word hz => exact n2 hz
  | name h1 h2 h3 => exact absurd h2 (Nat.not_le_of_lt (n3 _ _ rfl h1))
  | @num n hn => exact n4 ⟨n, hn, rfl⟩
theorem part_ne (c : Nat) (r : List Nat) : partL (c :: r) ≠ [] := by
  unfold partL
  split
  · split
    · rename_i s hs
      have h := List.mem_of_find?_eq_some hs
      intro e
      have : (SIG.all fun z => !decide (z.cps.toList = [])) = true := by decide +kernel
      have := List.all_eq_true.mp this s h
      rw [e] at this
      simp at this
    · simp
  · assumption
theorem part_le (r : List Nat) : (partL r).length ≤ r.length + 2 := by
  unfold partL
  split
  · split
    · rename_i s hs
      have h := List.mem_of_find?_eq_some hs
      have : (SIG.all fun z => decide (z.cps.toList.length ≤ 2)) = true := by decide +kernel
      have := List.all_eq_true.mp this s h
      have : s.cps.toList.length ≤ 2 := by simpa using this
      omega
    · rw [List.length_take]
      omega
  · have := (List.takeWhile_prefix (l := r) runC).length_le
    omega
def sp_tokenizeX (C : Addr) : Sp := fun vs H Q E => ∃ (cs : List Nat) (o : Option Int), vs = [.str (Tx cs)] ∧ cs.length ≤ 90000 ∧ Lx cs 1 o ∧ (o = none → ∀ p H' ws, H p = none → Ex H H' → H' p = some (.lst ws) → Q (.ref p) H') ∧
  (∀ m, o = some m → ∀ d H', H d = none → Ex H H' → H' d = some (.xd [(("line" : Str), .int m)]) → E (.ref C) (some d) H')
theorem ok_tokenizeX (T : Glo K mg) (D : Dn K mg "tokenize" s_tokenize p_tokenize) (G_comment_end : Cal P w K mg base "comment_end" 1 p_comment_end sp_cend) (G_part_at : Cal P w K mg base "part_at" 2 p_part_at sp_part) (G_token_of : CalX P w K mg base "token_of" 3 p_token_of (sp_tokenX C)) :
    CalX P w K mg base "tokenize" 4 p_tokenize (sp_tokenizeX C) := by
  refine D.okX sc_tokenize (fun vs H Q E h => ?_) (fun f cdv A outer s H vs Q E hr h => ?_)
  · obtain ⟨_, _, rfl, _⟩ := h
    rfl
  obtain ⟨cs, o, rfl, hl, ht, q, qe⟩ := h
  have tk := takes_def (P := P) (w := w) (K := K) (mg := mg) (base := base) (N := (["text", "found", "line", "at", "part"] : List Str)) (x := "tokenize") (sc := defScope s_tokenize) (f := f) (cdv := cdv) (A := A) (outer := outer) (s := s) (H := H) (E := E)
  have po := passes_def (P := P) (w := w) (K := K) (mg := mg) (base := base) (N := (["text", "found", "line", "at", "part"] : List Str)) (x := "tokenize") (sc := defScope s_tokenize) (f := f) (cdv := cdv) (A := A) (outer := outer) (s := s) (H := H) (E := E)
  refine ⟨_, (pss_cons (ps_set (i := 1) sc_tokenize.nd rfl (by first | exact Or.inl rfl | exact Or.inr rfl) (pe_lst pa_nil)) (pss_cons (ps_set (i := 2) sc_tokenize.nd rfl (by first | exact Or.inl rfl | exact Or.inr rfl) pe_int) (pss_cons (ps_set (i := 3) sc_tokenize.nd rfl (by first | exact Or.inl rfl | exact Or.inr rfl) pe_int) (pss_cons (ps_while po (pt_cmpR op_lt (pv 3) (pe_callB call_lenA rfl T.n_len (by decide +kernel) (pa_cons (pv 0) pa_nil)) (nomark _)) (pss_one (ps_if (pt_cmpR (op_eqA (hu64 hr)) (pe_ix ix_seq (pv 0) (pv 3) (fun _ _ => rfl)) pe_str (nomark _)) (pss_cons (ps_aug (i := 2) sc_tokenize.nd rfl (by first | exact Or.inl rfl | exact Or.inr rfl) pe_int ip_add) (pss_one (ps_aug (i := 3) sc_tokenize.nd rfl (by first | exact Or.inl rfl | exact Or.inr rfl) pe_int ip_add))) (pss_one (ps_if (pt_cmpR (op_eqA (hu64 hr)) (pe_ix ix_seq (pv 0) (pv 3) (fun _ _ => rfl)) pe_str (nomark _)) (pss_one (ps_aug (i := 3) sc_tokenize.nd rfl (by first | exact Or.inl rfl | exact Or.inr rfl) pe_int ip_add)) (pss_one (ps_if (pt_cmpR (op_eqA (hu64 hr)) (pe_ix ix_seq (pv 0) (pv 3) (fun _ _ => rfl)) pe_str (nomark _)) (pss_one (ps_set (i := 3) sc_tokenize.nd rfl (by first | exact Or.inl rfl | exact Or.inr rfl) (pe_cal G_comment_end (hr.mono (by walk_at "lev")) rfl (pa_cons (pv 0) (pa_cons (pv 3) pa_nil))))) (pss_cons (ps_set (i := 4) sc_tokenize.nd rfl (by first | exact Or.inl rfl | exact Or.inr rfl) (pe_cal G_part_at (hr.mono (by walk_at "lev")) rfl (pa_cons (pv 0) (pa_cons (pv 3) pa_nil)))) (pss_cons (ps_expr (pe_bm PySem.F.plainAttrs_list PySem.F.slot_list_append PySem.F.type_list_append mt_append (pv 1) (pa_cons (pe_calX G_token_of (hr.mono (by walk_at "lev")) rfl tk (pa_cons (pv 4) (pa_cons (pv 2) pa_nil))) pa_nil))) (pss_one (ps_aug (i := 3) sc_tokenize.nd rfl (by first | exact Or.inl rfl | exact Or.inr rfl) (pe_callB call_lenA rfl T.n_len (by decide +kernel) (pa_cons (pv 4) pa_nil)) ip_add))))))))))) (pss_cons (ps_expr (pe_bm PySem.F.plainAttrs_list PySem.F.slot_list_append PySem.F.type_list_append mt_append (pv 1) (pa_cons (pe_tup (pa_cons pe_str (pa_cons pe_str (pa_cons (pv 2) pa_nil)))) pa_nil))) (pss_one (ps_ret (pv 1)))))))), ?_⟩
  try dsimp only [cxOf]
  repeat' walk_at "st"
  obtain ⟨fa, rfl⟩ : ∃ fa, fa = p := ⟨p, rfl⟩
  have hfa := hp
  refine w_while (fun z σ H' => ∃ (k : Nat) (n : Int) (ws : List V) (y : Option V), z = cs.length - k ∧ k ≤ cs.length ∧ σ = [some (.str (Tx cs)), some (.ref fa), some (.int n), some (.int k), y] ∧ Lx (cs.drop k) n o ∧ Ex H H' ∧
    H' fa = some (.lst ws) ∧ ws.length ≤ k) cs.length ⟨0, 1, [], none, by omega, by omega, rfl, ht, ke, hn, by simp⟩ ?_ ?_
  · rintro z σ H' ⟨k, n, ws, y, rfl, hk, rfl, htk, hex, hp', hwl⟩
    repeat' walk_at "st"
    refine q_lenS (by rw [T_len]; omega) ?_
    rw [T_len]
    by_cases hlt : k < cs.length
    · have hd : cs.drop k = cs[k] :: cs.drop (k + 1) := List.drop_eq_getElem_cons hlt
      have hat : atI (Tx cs).cps.toList (k : Int) = some cs[k] := atI_nat (List.getElem?_eq_getElem hlt)
      repeat' walk_at "st"
      refine q_ixS (by rw [T_len]; omega) hat ?_
      repeat' walk_at "st"
      · rename_i e
        have e10 : cs[k] = 10 := by have := T_inj (a := [cs[k]]) (b := [10]) e; simpa using this
        rw [hd, e10] at htk
        cases htk with
        | nl htk => exact ⟨_, by omega, k + 1, n + 1, ws, y, rfl, by omega, rfl, htk, hex, hp', by omega⟩
        | part h1 => exact absurd rfl h1
        | bad h1 => exact absurd rfl h1
      · rename_i e
        have n10 : cs[k] ≠ 10 := fun z => e (by rw [z]; decide +kernel)
        refine q_ixS (by rw [T_len]; omega) hat ?_
        repeat' walk_at "st"
        · rename_i e
          have e32 : cs[k] = 32 := by have := T_inj (a := [cs[k]]) (b := [32]) e; simpa using this
          rw [hd, e32] at htk
          cases htk with
          | sp htk => exact ⟨_, by omega, k + 1, n, ws, y, rfl, by omega, rfl, htk, hex, hp', by omega⟩
          | part h1 h2 => exact absurd rfl h2
          | bad h1 h2 => exact absurd rfl h2
        · rename_i e
          have n32 : cs[k] ≠ 32 := fun z => e (by rw [z]; decide +kernel)
          refine q_ixS (by rw [T_len]; omega) hat ?_
          repeat' walk_at "st"
          · rename_i e
            have e35 : cs[k] = 35 := by have := T_inj (a := [cs[k]]) (b := [35]) e; simpa using this
            refine c_cend (by omega) (by omega) ?_
            repeat' walk_at "st"
            rw [hd, e35] at htk
            have hr : restNl (cs.drop k) = 35 :: restNl (cs.drop (k + 1)) := by
              rw [hd, e35]
              unfold restNl
              rw [List.takeWhile_cons, if_pos (by decide)]
            have hle : (restNl (cs.drop (k + 1))).length ≤ (cs.drop (k + 1)).length := (List.takeWhile_prefix _).length_le
            rw [List.length_drop] at hle
            rw [hr, List.length_cons]
            cases htk with
            | cm htk =>
              rw [List.drop_drop] at htk
              exact ⟨_, by omega, k + ((restNl (cs.drop (k + 1))).length + 1), n, ws, y, rfl, by omega, rfl, by rw [show k + ((restNl (cs.drop (k + 1))).length + 1) = k + 1 + (restNl (cs.drop (k + 1))).length by omega]; exact htk, hex, hp', by omega⟩
            | part h1 h2 h3 => exact absurd rfl h3
            | bad h1 h2 h3 => exact absurd rfl h3
          · rename_i e
            have n35 : cs[k] ≠ 35 := fun z => e (by rw [z]; decide +kernel)
            refine c_part hlt (by omega) ?_
            repeat' walk_at "st"
            refine q_tyL hp' ?_
            repeat' walk_at "st"
            have hcs : cs.length - k = (cs.drop k).length := (List.length_drop).symm
            rw [hd] at htk
            have hpl := part_le (cs.drop k)
            have hpn := part_ne cs[k] (cs.drop (k + 1))
            have hiv := htk.inv n10 n32 n35
            rw [hd]
            refine c_tokenX (by rw [← hd]; omega) hpn (fun kd v hto q1 H1 hq1 e1 h1' => ?_) (fun hno d H2 hd2 e2 h2 => ?_)
            · rcases hiv with ⟨pp, rst, kd', v', hpe, hsp, hto', htk2⟩ | ⟨hno, _⟩
              · have hlen : pp.length + rst.length = cs.length - k := by
                  rw [hcs, hd, hsp, List.length_append]
                rw [hpe] at hto ⊢
                have hpos := tokOf_pos hto
                repeat' walk_at "st"
                refine q_append (e1 _ _ hp') (by omega) ?_
                repeat' walk_at "st"
                refine q_lenS (by rw [T_len]; omega) ?_
                rw [T_len]
                repeat' walk_at "st"
                have hdr : cs.drop (k + pp.length) = rst := by
                  rw [← List.drop_drop, hd, hsp, List.drop_left]
                refine ⟨_, by omega, k + pp.length, n, ws ++ [.ref q1], _, rfl, by omega, rfl, by rw [hdr]; exact htk2, ?_, upd_same, by rw [List.length_append]; simp; omega⟩
                intro b u hb
                rw [upd_ne (ne_of_none hb hfa)]
                exact e1 _ _ (hex _ _ hb)
              · exact (not_both hto hno).elim
            · rcases hiv with ⟨pp, rst, kd', v', hpe, hsp, hto', htk2⟩ | ⟨_, ho⟩
              · rw [hpe] at hno
                exact (not_both hto' hno).elim
              · exact qe n ho d H2 (free_back hex hd2) (hex.trans e2) h2
    · have hk' : k = cs.length := by omega
      repeat' walk_at "st"
      refine q_tyL hp' ?_
      repeat' walk_at "st"
      have hd : cs.drop k = [] := List.drop_eq_nil_of_le (by omega)
      rw [hd] at htk
      cases htk
      refine q_append (ke _ _ hp') (by omega) ?_
      repeat' walk_at "st"
      refine q rfl _ _ _ hfa ?_ upd_same
      intro b u hb
      rw [upd_ne (ne_of_none hb hfa)]
      exact ke _ _ (hex _ _ hb)
  · intro σ H Q Q' hQ h
    exact mo_test (mo_op mo_I0 mo_var (mo_cb mo_lenA (mo_cons mo_var mo_nil))) _ _ _ _ hQ h
theorem c_tokenizeX {cs : List Nat} {o : Option Int} {H : Hp} {Q : VK} {E : XK} (h1 : cs.length ≤ 90000) (h2 : Lx cs 1 o) (q : o = none → ∀ p H' ws, H p = none → Ex H H' → H' p = some (.lst ws) → Q (.ref p) H')
    (qe : ∀ m, o = some m → ∀ d H', H d = none → Ex H H' → H' d = some (.xd [(("line" : Str), .int m)]) → E (.ref C) (some d) H') : sp_tokenizeX C [.str (Tx cs)] H Q E := ⟨cs, o, rfl, h1, h2, q, qe⟩
abbrev s__law_bad : Stmt := topS 28
theorem sc__law_bad : FnScope ["_law_state_here", "_law_kind"] ["_law_state_here"] (defScope s__law_bad) := ⟨rfl, rfl, rfl, by decide +kernel, rfl, by decide +kernel, by decide +kernel⟩
abbrev p__law_bad : List Str := ["_law_state_here"]
abbrev s__law_good : Stmt := topS 29
theorem sc__law_good : FnScope ["_law_state_here"] ["_law_state_here"] (defScope s__law_good) := ⟨rfl, rfl, rfl, by decide +kernel, rfl, by decide +kernel, by decide +kernel⟩
abbrev p__law_good : List Str := ["_law_state_here"]
abbrev s__law_before : Stmt := topS 30
theorem sc__law_before : FnScope ["_law_state_here", "_law_text", "_law_k"] ["_law_state_here"] (defScope s__law_before) := ⟨rfl, rfl, rfl, by decide +kernel, rfl, by decide +kernel, by decide +kernel⟩
abbrev p__law_before : List Str := ["_law_state_here"]
abbrev s__law_outcome : Stmt := topS 31
theorem sc__law_outcome : FnScope ["_law_text", "_law_actual", "e"] ["_law_text"] (defScope s__law_outcome) := ⟨rfl, rfl, rfl, by decide +kernel, rfl, by decide +kernel, by decide +kernel⟩
abbrev p__law_outcome : List Str := ["_law_text"]
abbrev s__law_raised : Stmt := topS 32
theorem sc__law_raised : FnScope ["_law_which", "_law_item", "_law_kinds", "e"] ["_law_which", "_law_item"] (defScope s__law_raised) := ⟨rfl, rfl, rfl, by decide +kernel, rfl, by decide +kernel, by decide +kernel⟩
abbrev p__law_raised : List Str := ["_law_which", "_law_item"]
abbrev s_law : Stmt := topS 33
theorem sc_law : FnScope ["_law_script", "_law_state_here", "_law_which", "_law_before_here", "_law_bad_here", "_law_line", "_law_behind", "_law_good_here", "_law_item", "_law_char", "_law_k"] ["_law_script"] (defScope s_law) := ⟨rfl, rfl, rfl, by decide +kernel, rfl, by decide +kernel, by decide +kernel⟩
abbrev p_law : List Str := ["_law_script"]
variable {C : Addr}
/-! ### text * int -/
theorem foldl_cps (l : List (Array Nat)) : ∀ acc : Array Nat, (l.foldl (· ++ ·) acc).toList = acc.toList ++ (l.map Array.toList).flatten := by
  induction l with
  | nil => intro acc; simp
  | cons a l ih =>
    intro acc
    rw [List.foldl_cons, ih, Array.toList_append, List.map_cons, List.flatten_cons, List.append_assoc]
def repT (n : Nat) (a : List Nat) : List Nat := (List.replicate n a).flatten
theorem rep_len (n : Nat) (a : List Nat) : (repT n a).length = n * a.length := by
  induction n with
  | zero => simp [repT]
  | succ n ih =>
    unfold repT at ih ⊢
    rw [List.replicate_succ, List.flatten_cons, List.length_append, ih, Nat.succ_mul, Nat.add_comm]
theorem rep_S (n : Nat) (a : List Nat) : (⟨(List.replicate n (Tx a).cps).foldl (· ++ ·) #[]⟩ : Str) = Tx (repT n a) := by
  have h := foldl_cps (List.replicate n (Tx a).cps) #[]
  rw [List.map_replicate] at h
  have e : (Tx a).cps.toList = a := rfl
  rw [e] at h
  show _ = (⟨(repT n a).toArray⟩ : Str)
  congr 1
  apply Array.toList_inj.mp
  rw [h]
  rfl
def rMulN : R2 := fun x y H Q => ∃ (a : List Nat) (n : Nat), x = .str (Tx a) ∧ y = .int (n : Int) ∧ n ≤ 100 ∧ a.length ≤ 100 ∧ Q (.str (Tx (repT n a))) H
theorem op_mulN {X : Cx} : OpR X (binaryOp .Mult) rMulN := by
  intro pins s σ H x y v u Q I rx ry h
  obtain ⟨a, n, rfl, rfl, h1, h8, q⟩ := h
  obtain ⟨t, rfl⟩ := rx
  obtain ⟨t', rfl⟩ := ry
  have hl : (Tx a).length ≤ 100 := by rw [T_len]; exact h8
  have hm : (Tx a).length * n ≤ 10000 := Nat.le_trans (Nat.mul_le_mul hl h1) (by decide)
  refine PySem.P.mul_str (by
    have e1 : ¬ ((n : Int) < -(2 ^ 63)) := by omega
    have e2 : ¬ ((n : Int) ≥ 2 ^ 63) := by omega
    rw [decide_eq_false e1, decide_eq_false e2]
    rfl) (fun hn _ hgt => ?_) (fun _ _ => ?_) ?_
  · have hn' : (0 : Int) < n := by omega
    have h2 : ((Tx a).length : Int) ≤ (2 ^ 63 - 1) / (n : Int) := (Int.le_ediv_iff_mul_le hn').mpr (by
      have : ((Tx a).length : Int) * (n : Int) = (((Tx a).length * n : Nat) : Int) := by simp
      omega)
    omega
  · rw [Int.toNat_natCast]
    exact decide_eq_false (Nat.not_lt_of_le (Nat.le_trans hm (by decide)))
  · by_cases c1 : (n : Int) < 1
    · rw [if_pos c1]
      have e0 : n = 0 := by omega
      subst e0
      refine ⟨by decide, .str (Tx (repT 0 a)), H, I.tok _, ⟨_, rfl⟩, q⟩
    · rw [if_neg c1]
      by_cases c2 : ((n : Int) == 1 || (Tx a).length == 0) = true
      · rw [if_pos c2]
        have e : Tx (repT n a) = Tx a := by
          rw [Bool.or_eq_true] at c2
          rcases c2 with c2 | c2
          · have : n = 1 := by have := beq_iff_eq.mp c2; omega
            subst this
            simp [repT]
          · have h0 : a = [] := by
              have := beq_iff_eq.mp c2
              rw [T_len] at this
              exact List.length_eq_zero_iff.mp this
            subst h0
            simp [repT]
        rw [e] at q
        exact ⟨.str (Tx a), H, I, ⟨t, rfl⟩, q⟩
      · rw [if_neg c2, Int.toNat_natCast, rep_S]
        refine ⟨?_, .str (Tx (repT n a)), H, I.tok _, ⟨_, rfl⟩, q⟩
        have : (repT n a).length ≤ 10000 := by
          rw [rep_len, Nat.mul_comm]
          rw [T_len] at hm
          exact hm
        refine Nat.le_trans (m := 10000) ?_ (by decide)
        rw [T_len]
        exact this
theorem q_mulN {a : List Nat} {n : Nat} {z : Int} {H : Hp} {Q : VK} (hz : z = (n : Int)) (h : n ≤ 100) (h2 : a.length ≤ 100) (q : Q (.str (Tx (repT n a))) H) : rMulN (.str (Tx a)) (.int z) H Q := ⟨a, n, rfl, by rw [hz], h, h2, q⟩
theorem q_addS {a b : List Nat} {H : Hp} {Q : VK} (h : a.length + b.length ≤ 100000) (q : Q (.str (Tx (a ++ b))) H) : rAddA K (.str (Tx a)) (.str (Tx b)) H Q := .inr (.inl ⟨Tx a, Tx b, rfl, rfl, by rw [T_len, T_len]; exact sl1000 h, by rw [T_cat]; exact q⟩)
def rStrN : List V → Hp → VK → Prop := fun xs H Q => ∃ i : Int, xs = [V.int i] ∧ i.natAbs.log2 < 1920 ∧ Q (.str (toString i)) H
theorem call_strN {X : Cx} : CallR X (.type "str") rStrN := call_str_int
theorem q_strN {n : Nat} {z : Int} {H : Hp} {Q : VK} (hz : z = (n : Int)) (h : n < 2 ^ 64) (q : Q (.str (Tx (TL.numL n))) H) : rStrN [.int z] H Q := ⟨n, by rw [hz], by
  rw [Int.natAbs_natCast]
  by_cases h0 : n = 0
  · subst h0; decide
  · exact Nat.lt_of_lt_of_le ((Nat.log2_lt h0).mpr h) (by decide), by
  have e : Str.ofString (toString ((n : Nat) : Int)) = Tx (TL.numL n) := SX.num_S n
  show Q (.str (Str.ofString (toString ((n : Nat) : Int)))) H
  rw [e]
  exact q⟩
/-! ### parts that are none -/
theorem let_run {c : Nat} (h : c ∈ LET) : runC c = true := by unfold runC; rw [decide_eq_true h]; rfl
theorem dig_run {c : Nat} (h : c ∈ DIG) : runC c = true := by
  unfold runC
  rw [decide_eq_true h]
  cases decide (c ∈ LET) <;> rfl
/-- what may stand behind: nothing, or something that begins with a space, a newline or a sign that ends a part -/
def Beh (rest : List Nat) : Prop := rest = [] ∨ ∃ c r, rest = c :: r ∧ (c = 32 ∨ c = 10 ∨ c = 59)
structure Bad (b : List Nat) : Prop where
  hd : ∃ c r, b = c :: r ∧ c ≠ 10 ∧ c ≠ 32 ∧ c ≠ 35
  no : NoTok b
  le : b.length ≤ 200
  nl : ∀ x ∈ b, x ≠ 10
  pt : ∀ rest, Beh rest → partL (b ++ rest) = b
theorem run_ws {c : Nat} (h : c = 32 ∨ c = 10 ∨ c = 59) : runC c = false := by
  rcases h with rfl | rfl | rfl <;> decide +kernel
theorem tw_all {p : List Nat} (hp : ∀ x ∈ p, runC x = true) {rest : List Nat} (h : Beh rest) : (p ++ rest).takeWhile runC = p := by
  rcases h with rfl | ⟨c, r, rfl, hc⟩
  · rw [List.append_nil]
    have := run_end (r := p) (j := p.length) (Nat.le_refl _) (by rw [List.take_length]; exact hp)
    rw [List.take_length] at this
    exact this
  · exact tw_app (run_ws hc) hp
theorem part_run {p : List Nat} (h0 : p ≠ []) (hp : ∀ x ∈ p, runC x = true) {rest : List Nat} (h : Beh rest) : partL (p ++ rest) = p := by
  unfold partL
  rw [tw_all hp h, if_neg h0]
theorem run_not {c : Nat} (h : runC c = true) : c ≠ 10 ∧ c ≠ 32 ∧ c ≠ 35 := by
  refine ⟨?_, ?_, ?_⟩ <;> (intro e; subst e; revert h; decide +kernel)
theorem sig_not_run : (SIG.all fun z => match z.cps.toList with | c :: _ => !runC c | [] => false) = true := by decide +kernel
theorem bad_run {c : Nat} {r : List Nat} (hr : ∀ x ∈ c :: r, runC x = true) (hl : (c :: r).length ≤ 200) (h1 : Tx (c :: r) ∉ RES) (h2 : c ∈ LET → 16 < (c :: r).length) (h3 : ¬ isNum (c :: r)) : Bad (c :: r) where
  hd := ⟨c, r, rfl, run_not (hr c (List.mem_cons_self ..))⟩
  no := ⟨fun hm => by
    have := List.all_eq_true.mp sig_not_run _ hm
    have hc := hr c (List.mem_cons_self ..)
    simp [hc] at this, h1, fun c' r' e hc => by cases e; exact h2 hc, h3⟩
  le := hl
  nl := fun x hx => (run_not (hr x hx)).1
  pt := fun rest h => part_run (List.cons_ne_nil _ _) hr h
theorem num_not_let {n : Nat} {c : Nat} {r : List Nat} (e : TL.numL n = c :: r) : c ∉ LET := dig_not_let (numL_dig n c (by rw [e]; exact List.mem_cons_self ..))
theorem digs_no_res {c : Nat} {r : List Nat} (h : c ∈ DIG) : Tx (c :: r) ∉ RES := num_not_res h
theorem isnum_dig {p : List Nat} (h : isNum p) : (∀ c ∈ p, c ∈ DIG) ∧ p.length ≤ 5 := by
  obtain ⟨n, hn, rfl⟩ := h
  exact ⟨numL_dig n, TL.numL_len (n := n) (k := 5) (by decide) (by omega)⟩
theorem bad_big {n : Nat} (h : 65536 ≤ n) (h2 : n < 10 ^ 30) : Bad (TL.numL n) := by
  have hl := TL.numL_len (n := n) (k := 30) (by decide) h2
  have hd := numL_dig n
  have hn : ¬ isNum (TL.numL n) := fun ⟨m, hm, e⟩ => by
    have := TL.numL_inj e
    omega
  rcases e : TL.numL n with _ | ⟨c, r⟩
  · exact absurd e (TL.numL_ne n)
  · rw [e] at hl hd hn
    have hc := hd c (List.mem_cons_self ..)
    exact bad_run (fun x hx => dig_run (hd x hx)) (by omega) (digs_no_res hc) (fun z => absurd z (dig_not_let hc)) hn
theorem bad_zero {n : Nat} (h : n < 10 ^ 30) : Bad (48 :: TL.numL n) := by
  have hl := TL.numL_len (n := n) (k := 30) (by decide) h
  have h48 : (48 : Nat) ∈ DIG := by decide +kernel
  refine bad_run (fun x hx => ?_) (by rw [List.length_cons]; omega) (digs_no_res h48) (fun z => absurd z (dig_not_let h48)) ?_
  · rcases List.mem_cons.mp hx with rfl | hx
    · exact dig_run h48
    · exact dig_run (numL_dig n x hx)
  · rintro ⟨m, hm, e⟩
    by_cases h0 : m = 0
    · subst h0
      have e0 : TL.numL 0 = [48] := by decide +kernel
      rw [e0] at e
      exact TL.numL_ne n (List.cons.inj e).2
    · exact numL_head (Nat.pos_of_ne_zero h0) e.symm rfl
theorem bad_tail {n : Nat} {t : List Nat} {x : Nat} (h : n < 10 ^ 30) (ht : ∀ x ∈ t, runC x = true) (hx : x ∈ t) (hd : x ∉ DIG) (hl : t.length ≤ 10) : Bad (TL.numL n ++ t) := by
  have hl2 := TL.numL_len (n := n) (k := 30) (by decide) h
  have hdg := numL_dig n
  rcases e : TL.numL n with _ | ⟨c, r⟩
  · exact absurd e (TL.numL_ne n)
  · rw [e] at hl2 hdg
    have hc := hdg c (List.mem_cons_self ..)
    rw [List.cons_append]
    refine bad_run (fun y hy => ?_) (by rw [List.length_cons, List.length_append]; rw [List.length_cons] at hl2; omega) (digs_no_res hc) (fun z => absurd z (dig_not_let hc)) (fun hn => hd ((isnum_dig hn).1 x (List.mem_cons_of_mem _ (List.mem_append_right _ hx))))
    rw [← List.cons_append] at hy
    rcases List.mem_append.mp hy with hy | hy
    · exact dig_run (hdg y hy)
    · exact ht y hy
/-- a lone character that is no sign and no beginning of one here -/
theorem bad_one {c : Nat} (h0 : runC c = false) (h1 : c ≠ 10 ∧ c ≠ 32 ∧ c ≠ 35) (h2 : ∀ rest, Beh rest → (SIG.find? fun s => s.cps.toList.isPrefixOf (c :: rest)) = none) (h3 : Tx [c] ∉ SIG) (h4 : Tx [c] ∉ RES) (h5 : c ∉ LET) (h6 : c ∉ DIG) : Bad [c] where
  hd := ⟨c, [], rfl, h1⟩
  no := ⟨h3, h4, fun c' r e hc => by cases e; exact absurd hc h5, fun hn => h6 ((isnum_dig hn).1 c (List.mem_singleton.mpr rfl))⟩
  le := by show 1 ≤ 200; decide
  nl := fun x hx => by rw [List.mem_singleton.mp hx]; exact h1.1
  pt := fun rest h => by
    show partL (c :: rest) = [c]
    have e : (c :: rest).takeWhile runC = [] := by rw [List.takeWhile_cons, h0]; rfl
    unfold partL
    rw [if_pos e, h2 rest h]
    rfl
/-! ### _law_bad -/
def BAD1 : List Nat := [62, 33, 38, 36, 64, 63, 126, 124, 58, 34, 39, 46, 94]
theorem bad1_all : (BAD1.all fun c => !runC c && !decide (c = 10) && !decide (c = 32) && !decide (c = 35) && !decide (Tx [c] ∈ SIG) && !decide (Tx [c] ∈ RES) && !decide (c ∈ LET) && !decide (c ∈ DIG)) = true := by decide +kernel
theorem sigc_of : (SIG.map fun s => s.cps.toList) = [[61, 61], [33, 61], [60, 61], [123], [125], [40], [41], [91], [93], [59], [44], [61], [60], [43], [45], [42], [47]] := by decide +kernel
theorem find_map (r : List Nat) : ∀ L : List Str, ((L.map fun s => s.cps.toList).find? fun a => a.isPrefixOf r) = none → (L.find? fun s => s.cps.toList.isPrefixOf r) = none
  | [], _ => rfl
  | s :: l, h => by
    rw [List.map_cons, List.find?_cons] at h
    rw [List.find?_cons]
    cases e : s.cps.toList.isPrefixOf r with
    | true => rw [e] at h; cases h
    | false => rw [e] at h; exact find_map r l h
theorem bad1 {c : Nat} (h : c ∈ BAD1) : Bad [c] := by
  have a := List.all_eq_true.mp bad1_all c h
  simp only [Bool.and_eq_true, Bool.not_eq_true', decide_eq_false_iff_not] at a
  obtain ⟨⟨⟨⟨⟨⟨⟨a1, a2⟩, a3⟩, a4⟩, a5⟩, a6⟩, a7⟩, a8⟩ := a
  refine bad_one a1 ⟨a2, a3, a4⟩ (fun rest hb => find_map _ _ ?_) a5 a6 a7 a8
  rw [sigc_of]
  have key : ∀ c ∈ BAD1, ∀ rest : List Nat, (rest = [] ∨ ∃ d r, rest = d :: r ∧ (d = 32 ∨ d = 10 ∨ d = 59)) → (([[61, 61], [33, 61], [60, 61], [123], [125], [40], [41], [91], [93], [59], [44], [61], [60], [43], [45], [42], [47]] : List (List Nat)).find? fun a => a.isPrefixOf (c :: rest)) = none := by
    intro c hc rest hr
    simp only [BAD1, List.mem_cons, List.not_mem_nil, or_false] at hc
    rcases hr with rfl | ⟨d, r, rfl, rfl | rfl | rfl⟩ <;> rcases hc with rfl | rfl | rfl | rfl | rfl | rfl | rfl | rfl | rfl | rfl | rfl | rfl | rfl <;> simp [List.find?, List.isPrefixOf]
  exact key c h rest hb
theorem no_num {c : Nat} {r : List Nat} {x : Nat} (hx : x ∈ c :: r) (hd : x ∉ DIG) : ¬ isNum (c :: r) := fun h => hd ((isnum_dig h).1 x hx)
theorem bad_us : Bad [95] := bad_run (by decide +kernel) (by decide) (by decide +kernel) (fun h => absurd h (by decide +kernel)) (no_num (x := 95) (by decide) (by decide +kernel))
theorem bad_usa : Bad [95, 97] := bad_run (by decide +kernel) (by decide) (by decide +kernel) (fun h => absurd h (by decide +kernel)) (no_num (x := 95) (by decide) (by decide +kernel))
theorem res_short : (RES.all fun z => decide (z.cps.toList.length ≤ 8)) = true := by decide +kernel
theorem bad_long {n : Nat} (h : 1 ≤ n ∧ n ≤ 9) : Bad (repT 4 [97, 90, 95, 55] ++ repT n [98]) := by
  have e : repT 4 [97, 90, 95, 55] = [97, 90, 95, 55, 97, 90, 95, 55, 97, 90, 95, 55, 97, 90, 95, 55] := by decide
  have hl : (repT n [98]).length = n := by rw [rep_len]; simp
  have hm : ∀ x ∈ repT n [98], x = 98 := fun x hx => by
    unfold repT at hx
    obtain ⟨l, hl, hx⟩ := List.mem_flatten.mp hx
    rw [List.eq_of_mem_replicate hl] at hx
    exact List.mem_singleton.mp hx
  rw [e]
  have hlen : ([97, 90, 95, 55, 97, 90, 95, 55, 97, 90, 95, 55, 97, 90, 95, 55] ++ repT n [98]).length = 16 + n := by rw [List.length_append, hl]; rfl
  have hres : Tx ([97, 90, 95, 55, 97, 90, 95, 55, 97, 90, 95, 55, 97, 90, 95, 55] ++ repT n [98]) ∉ RES := fun hm2 => by
    have := List.all_eq_true.mp res_short _ hm2
    have : ([97, 90, 95, 55, 97, 90, 95, 55, 97, 90, 95, 55, 97, 90, 95, 55] ++ repT n [98]).length ≤ 8 := by simpa using this
    omega
  have key : ∀ c r, c :: r = [97, 90, 95, 55, 97, 90, 95, 55, 97, 90, 95, 55, 97, 90, 95, 55] ++ repT n [98] → Bad (c :: r) := by
    intro c r e2
    rw [← e2] at hlen hres
    refine bad_run (fun x hx => ?_) (by omega) hres (fun _ => by omega) (fun hn => ?_)
    · rw [e2] at hx
      rcases List.mem_append.mp hx with hx | hx
      · have : ∀ x ∈ ([97, 90, 95, 55, 97, 90, 95, 55, 97, 90, 95, 55, 97, 90, 95, 55] : List Nat), runC x = true := by decide +kernel
        exact this x hx
      · rw [hm x hx]
        decide +kernel
    · have := (isnum_dig hn).2
      omega
  exact key _ _ rfl
def sp_bad : Sp := fun vs H Q _ => ∃ (st c : Addr), vs = [.ref st] ∧ StOk st c H ∧ ∀ (b : List Nat) (H' : Hp), Bad b → Kp [st, c] H H' → StOk st c H' → Q (.str (Tx b)) H'
theorem c_bad {st c : Addr} {H : Hp} {Q : VK} {E : XK} (h1 : StOk st c H) (q : ∀ (b : List Nat) (H' : Hp), Bad b → Kp [st, c] H H' → StOk st c H' → Q (.str (Tx b)) H') : sp_bad [.ref st] H Q E := ⟨st, c, rfl, h1, q⟩
def BADS : List (List Nat) := [[62], [33], [38], [36], [64], [63], [126], [124], [58], [95], [95, 97], [34], [39], [46], [94]]
theorem bads_ok : ∀ b ∈ BADS, Bad b := by
  intro b hb
  simp only [BADS, List.mem_cons, List.not_mem_nil, or_false] at hb
  rcases hb with rfl | rfl | rfl | rfl | rfl | rfl | rfl | rfl | rfl | rfl | rfl | rfl | rfl | rfl | rfl
  case inr.inr.inr.inr.inr.inr.inr.inr.inr.inl => exact bad_us
  case inr.inr.inr.inr.inr.inr.inr.inr.inr.inr.inl => exact bad_usa
  all_goals exact bad1 (by decide)
theorem bads_v : ([.str ">", .str "!", .str "&", .str "$", .str "@", .str "?", .str "~", .str "|", .str ":", .str "_", .str "_a", .str "\"", .str "'", .str ".", .str "^"] : List V) = BADS.map fun b => .str (Tx b) := by decide +kernel
theorem bad_v {vs : List V} {L : List (List Nat)} (e : vs = L.map fun b => V.str (Tx b)) {j : Nat} {v : V} (h : vs[j]? = some v) : ∃ b ∈ L, v = .str (Tx b) := by
  rw [e, List.getElem?_map] at h
  obtain ⟨b, hb, rfl⟩ := Option.map_eq_some_iff.mp h
  exact ⟨b, List.mem_of_getElem? hb, rfl⟩
theorem s_az : Str.ofString "aZ_7" = Tx [97, 90, 95, 55] := by decide +kernel
theorem s_b : Str.ofString "b" = Tx [98] := by decide +kernel
theorem s_0 : Str.ofString "0" = Tx [48] := by decide +kernel
theorem s_9 : Str.ofString "9" = Tx [57] := by decide +kernel
theorem s_1 : Str.ofString "1" = Tx [49] := by decide +kernel
theorem ok_bad (T : Glo K mg) (D : Dn K mg "_law_bad" s__law_bad p__law_bad) (G__law_draw : Cal P w K mg base "_law_draw" 1 p__law_draw sp_draw) (G__law_pick : Cal P w K mg base "_law_pick" 2 p__law_pick (sp_pick K)) : Cal P w K mg base "_law_bad" 3 p__law_bad sp_bad := by
  refine D.ok sc__law_bad (fun vs H Q E h => ?_) (fun f cdv A outer s H vs Q E hr h => ?_)
  · obtain ⟨_, _, rfl, _⟩ := h
    rfl
  obtain ⟨st, c, rfl, so, q⟩ := h
  refine ⟨_, (pss_cons (ps_set (i := 1) sc__law_bad.nd rfl (by first | exact Or.inl rfl | exact Or.inr rfl) (pe_cal G__law_draw (hr.mono (by walk_at "lev")) rfl (pa_cons (pv 0) (pa_cons pe_int pa_nil)))) (pss_cons (ps_if (pt_cmpR (op_eqA (hu64 hr)) (pv 1) pe_int (nomark _)) (pss_one (ps_ret (pe_cal G__law_pick (hr.mono (by walk_at "lev")) rfl (pa_cons (pv 0) (pa_cons (pe_lst (pa_cons pe_str (pa_cons pe_str (pa_cons pe_str (pa_cons pe_str (pa_cons pe_str (pa_cons pe_str (pa_cons pe_str (pa_cons pe_str (pa_cons pe_str (pa_cons pe_str (pa_cons pe_str (pa_cons pe_str (pa_cons pe_str (pa_cons pe_str (pa_cons pe_str pa_nil)))))))))))))))) pa_nil))))) pss_nil) (pss_cons (ps_if (pt_cmpR (op_eqA (hu64 hr)) (pv 1) pe_int (nomark _)) (pss_one (ps_ret (pe_op op_addA (pe_op op_mulN pe_str pe_int) (pe_op op_mulN pe_str (pe_op op_addA pe_int (pe_cal G__law_draw (hr.mono (by walk_at "lev")) rfl (pa_cons (pv 0) (pa_cons pe_int pa_nil)))))))) pss_nil) (pss_cons (ps_if (pt_cmpR (op_eqA (hu64 hr)) (pv 1) pe_int (nomark _)) (pss_one (ps_ret (pe_op op_addA pe_str (pe_callTy call_strN rfl T.n_str (by decide +kernel) (pa_cons (pe_cal G__law_draw (hr.mono (by walk_at "lev")) rfl (pa_cons (pv 0) (pa_cons pe_int pa_nil))) pa_nil))))) pss_nil) (pss_cons (ps_if (pt_cmpR (op_eqA (hu64 hr)) (pv 1) pe_int (nomark _)) (pss_one (ps_ret (pe_op op_addA (pe_callTy call_strN rfl T.n_str (by decide +kernel) (pa_cons (pe_op op_addA pe_int (pe_cal G__law_draw (hr.mono (by walk_at "lev")) rfl (pa_cons (pv 0) (pa_cons pe_int pa_nil)))) pa_nil)) (pe_cal G__law_pick (hr.mono (by walk_at "lev")) rfl (pa_cons (pv 0) (pa_cons (pe_lst (pa_cons pe_str (pa_cons pe_str (pa_cons pe_str pa_nil)))) pa_nil)))))) pss_nil) (pss_cons (ps_if (pt_cmpR (op_eqA (hu64 hr)) (pv 1) pe_int (nomark _)) (pss_one (ps_ret (pe_callTy call_strN rfl T.n_str (by decide +kernel) (pa_cons (pe_op op_addA pe_int (pe_cal G__law_draw (hr.mono (by walk_at "lev")) rfl (pa_cons (pv 0) (pa_cons pe_int pa_nil)))) pa_nil)))) pss_nil) (pss_one (ps_ret (pe_cal G__law_pick (hr.mono (by walk_at "lev")) rfl (pa_cons (pv 0) (pa_cons (pe_lst (pa_cons pe_str (pa_cons (pe_op op_mulN pe_str pe_int) (pa_cons (pe_op op_mulN pe_str pe_int) pa_nil)))) pa_nil))))))))))), ?_⟩
  try dsimp only [cxOf, Cx.nox]
  repeat' walk_at "st"
  · obtain ⟨b, hb, rfl⟩ := bad_v bads_v ej
    exact q b _ (bads_ok b hb) (by walk_at "kp") so
  · rw [s_az, s_b]
    refine q_mulN (n := 4) rfl (by decide) (by decide) ?_
    repeat' walk_at "st"
    refine q_mulN (n := (1 + dn).toNat) (by omega) (by omega) (by decide) ?_
    refine q_addS (by rw [rep_len, rep_len]; simp only [List.length_cons, List.length_nil]; omega) ?_
    exact q _ _ (bad_long (by omega)) (by walk_at "kp") so
  · refine q_strN (n := dn.toNat) (by omega) (by omega) ?_
    have hl := TL.numL_len (n := dn.toNat) (k := 5) (by decide) (by omega)
    rw [s_0]
    refine q_addS (a := [48]) (by simp only [List.length_cons, List.length_nil]; omega) ?_
    exact q (48 :: TL.numL dn.toNat) _ (bad_zero (by omega)) (by walk_at "kp") so
  · refine q_strN (n := (1 + dn).toNat) (by omega) (by omega) ?_
    have hl := TL.numL_len (n := (1 + dn).toNat) (k := 5) (by decide) (by omega)
    have hbd : (1 + dn).toNat < 10 ^ 30 := by omega
    repeat' walk_at "st"
    have hv := List.mem_of_getElem? ej
    have e1 : ([.str "a", .str "_", .str "x1"] : List V) = [.str (Tx [97]), .str (Tx [95]), .str (Tx [120, 49])] := by decide +kernel
    rw [e1] at hv
    simp only [List.mem_cons, List.not_mem_nil, or_false] at hv
    rcases hv with rfl | rfl | rfl
    · refine q_addS (by simp only [List.length_cons, List.length_nil]; omega) ?_
      exact q _ _ (bad_tail (x := 97) hbd (by decide +kernel) (by decide) (by decide +kernel) (by decide)) (by walk_at "kp") so
    · refine q_addS (by simp only [List.length_cons, List.length_nil]; omega) ?_
      exact q _ _ (bad_tail (x := 95) hbd (by decide +kernel) (by decide) (by decide +kernel) (by decide)) (by walk_at "kp") so
    · refine q_addS (by simp only [List.length_cons, List.length_nil]; omega) ?_
      exact q _ _ (bad_tail (x := 120) hbd (by decide +kernel) (by decide) (by decide +kernel) (by decide)) (by walk_at "kp") so
  · refine q_strN (n := (65536 + dn).toNat) (by omega) (by omega) ?_
    exact q _ _ (bad_big (n := (65536 + dn).toNat) (by omega) (by omega)) (by walk_at "kp") so
  · rw [s_9, s_1]
    refine q_mulN (n := 5) rfl (by decide) (by decide) ?_
    repeat' walk_at "st"
    refine q_mulN (n := 6) rfl (by decide) (by decide) ?_
    repeat' walk_at "st"
    have hv := List.mem_of_getElem? ej
    have e1 : ([.str "12345678901234567890", .str (Tx (repT 5 [57])), .str (Tx (repT 6 [49]))] : List V) = [.str (Tx (TL.numL 12345678901234567890)), .str (Tx (TL.numL 99999)), .str (Tx (TL.numL 111111))] := by decide +kernel
    rw [e1] at hv
    simp only [List.mem_cons, List.not_mem_nil, or_false] at hv
    rcases hv with rfl | rfl | rfl
    · exact q _ _ (bad_big (by decide) (by decide)) (by walk_at "kp") so
    · exact q _ _ (bad_big (by decide) (by decide)) (by walk_at "kp") so
    · exact q _ _ (bad_big (by decide) (by decide)) (by walk_at "kp") so
variable {C : Addr}
/-! ### lines ahead, good parts -/
def SIGC : List (List Nat) := [[61, 61], [33, 61], [60, 61], [123], [125], [40], [41], [91], [93], [59], [44], [61], [60], [43], [45], [42], [47]]
theorem sigc : (SIG.map fun s => s.cps.toList) = SIGC := by decide +kernel
theorem find_c (r : List Nat) : ∀ L : List Str, (match L.find? fun s => s.cps.toList.isPrefixOf r with | some s => s.cps.toList | none => r.take 1) = (match (L.map fun s => s.cps.toList).find? fun a => a.isPrefixOf r with | some a => a | none => r.take 1)
  | [] => rfl
  | s :: l => by
    have ih := find_c r l
    rw [List.map_cons, List.find?_cons, List.find?_cons]
    cases s.cps.toList.isPrefixOf r
    · exact ih
    · rfl
theorem sig_part {a rest : List Nat} (ha : a ∈ SIGC) (h : a = [61] ∨ a = [60] → ∀ c r, rest = c :: r → c ≠ 61) : (match SIGC.find? fun b => b.isPrefixOf (a ++ rest) with | some b => b | none => (a ++ rest).take 1) = a := by
  have e1 : ∀ c r, rest = c :: r → (a = [61] ∨ a = [60]) → (61 == c) = false := fun c r e z => by
    have := h z c r e
    simp only [beq_eq_false_iff_ne]
    exact fun w => this w.symm
  simp only [SIGC, List.mem_cons, List.not_mem_nil, or_false] at ha
  rcases ha with rfl | rfl | rfl | rfl | rfl | rfl | rfl | rfl | rfl | rfl | rfl | rfl | rfl | rfl | rfl | rfl | rfl
  case inr.inr.inr.inr.inr.inr.inr.inr.inr.inr.inr.inl =>
    cases rest with
    | nil => rfl
    | cons c r => simp [SIGC, List.find?, List.isPrefixOf, e1 c r rfl (.inl rfl)]
  case inr.inr.inr.inr.inr.inr.inr.inr.inr.inr.inr.inr.inl =>
    cases rest with
    | nil => rfl
    | cons c r => simp [SIGC, List.find?, List.isPrefixOf, e1 c r rfl (.inr rfl)]
  all_goals simp [SIGC, List.find?, List.isPrefixOf]
theorem sigc_run : (SIGC.all fun a => match a with | c :: _ => !runC c && !decide (c = 10) && !decide (c = 32) && !decide (c = 35) | [] => false) = true := by decide +kernel
theorem sigc_sig {a : List Nat} (h : a ∈ SIGC) : Tx a ∈ SIG := by
  rw [← sigc] at h
  obtain ⟨z, hz, rfl⟩ := List.mem_map.mp h
  exact hz
theorem lx_sig {a rest : List Nat} {n : Int} {o : Option Int} (ha : a ∈ SIGC) (h : a = [61] ∨ a = [60] → ∀ c r, rest = c :: r → c ≠ 61) (k : Lx rest n o) : Lx (a ++ rest) n o := by
  have hr := List.all_eq_true.mp sigc_run a ha
  have hp : partL (a ++ rest) = a := by
    unfold partL
    have ht : (a ++ rest).takeWhile runC = [] := by
      cases a with
      | nil => cases hr
      | cons c r =>
        simp at hr
        rw [List.cons_append, List.takeWhile_cons, if_neg (by rw [hr.1.1.1]; exact Bool.false_ne_true)]
    rw [if_pos ht]
    refine (find_c _ SIG).trans ?_
    rw [sigc]
    exact sig_part ha h
  have ht : TokOf a "sign" (.str (Tx a)) := .sign (z := Tx a) (sigc_sig ha)
  cases a with
  | nil => cases hr
  | cons c r =>
    simp at hr
    rw [List.cons_append] at hp ⊢
    exact .part hr.1.1.2 hr.1.2 hr.2 hp rfl ht k
theorem lx_run {p rest : List Nat} {kd : Str} {v : V} {n : Int} {o : Option Int} (h0 : p ≠ []) (hp : ∀ x ∈ p, runC x = true) (hb : Beh rest) (ht : TokOf p kd v) (k : Lx rest n o) : Lx (p ++ rest) n o := by
  have hpt := part_run h0 hp hb
  cases p with
  | nil => exact absurd rfl h0
  | cons c r =>
    have hn := run_not (hp c (List.mem_cons_self ..))
    rw [List.cons_append] at hpt ⊢
    exact .part hn.1 hn.2.1 hn.2.2 hpt rfl ht k
theorem restNl_app : ∀ {a : List Nat}, (∀ c ∈ a, c ≠ 10) → ∀ r, restNl (a ++ 10 :: r) = a
  | [], _, r => by unfold restNl; rw [List.nil_append, List.takeWhile_cons, if_neg (by decide)]
  | c :: a, h, r => by
    have ih := restNl_app (a := a) (fun x hx => h x (List.mem_cons_of_mem c hx)) r
    unfold restNl at ih ⊢
    rw [List.cons_append, List.takeWhile_cons, if_pos (by simpa using h c (List.mem_cons_self ..)), ih]
theorem lx_cm {a rest : List Nat} {n : Int} {o : Option Int} (h : ∀ c ∈ a, c ≠ 10) (k : Lx rest (n + 1) o) : Lx (35 :: (a ++ 10 :: rest)) n o := by
  refine .cm ?_
  rw [restNl_app h, List.drop_left]
  exact .nl k
theorem beh32 {r : List Nat} : Beh (32 :: r) := .inr ⟨_, _, rfl, .inl rfl⟩
theorem beh10 {r : List Nat} : Beh (10 :: r) := .inr ⟨_, _, rfl, .inr (.inl rfl)⟩
def LINES : List (List Nat) := [[103, 105, 118, 101], [120, 49, 32, 123], [35, 32, 48, 55, 32, 36], [], [32, 32], [55, 32, 60, 61, 32, 49, 50, 32, 91], [61], [61, 61, 61]]
theorem lines_v : ([.str "give", .str "x1 {", .str "# 07 $", .str "", .str "  ", .str "7 <= 12 [", .str "=", .str "==="] : List V) = LINES.map fun b => .str (Tx b) := by decide +kernel
theorem tok_num {p : List Nat} {n : Nat} (h : n < 65536) (e : p = TL.numL n) : TokOf p "number" (.int n) := by rw [e]; exact .num h
theorem lx_line {L : List Nat} (hL : L ∈ LINES) {rest : List Nat} {n : Int} {o : Option Int} (k : Lx rest (n + 1) o) : Lx (L ++ 10 :: rest) n o := by
  have k10 : Lx (10 :: rest) n o := .nl k
  simp only [LINES, List.mem_cons, List.not_mem_nil, or_false] at hL
  rcases hL with rfl | rfl | rfl | rfl | rfl | rfl | rfl | rfl
  · exact lx_run (p := [103, 105, 118, 101]) (by decide) (by decide +kernel) beh10 (.word (z := "give") (by decide +kernel)) k10
  · refine lx_run (p := [120, 49]) (rest := 32 :: 123 :: 10 :: rest) (by decide) (by decide +kernel) beh32 (.name (by decide +kernel) (by decide) (by decide +kernel)) (.sp ?_)
    exact lx_sig (a := [123]) (by decide) (fun h => by rcases h with h | h <;> cases h) k10
  · exact lx_cm (a := [32, 48, 55, 32, 36]) (by decide) k
  · exact k10
  · exact .sp (.sp k10)
  · refine lx_run (p := [55]) (rest := 32 :: 60 :: 61 :: 32 :: 49 :: 50 :: 32 :: 91 :: 10 :: rest) (by decide) (by decide +kernel) beh32 (tok_num (n := 7) (by decide) (by decide +kernel)) (.sp ?_)
    refine lx_sig (a := [60, 61]) (by decide) (fun h => by rcases h with h | h <;> cases h) (.sp ?_)
    refine lx_run (p := [49, 50]) (rest := 32 :: 91 :: 10 :: rest) (by decide) (by decide +kernel) beh32 (tok_num (n := 12) (by decide) (by decide +kernel)) (.sp ?_)
    exact lx_sig (a := [91]) (by decide) (fun h => by rcases h with h | h <;> cases h) k10
  · exact lx_sig (a := [61]) (by decide) (fun _ c r e => by cases e; decide) k10
  · refine lx_sig (a := [61, 61]) (rest := 61 :: 10 :: rest) (by decide) (fun h => by rcases h with h | h <;> cases h) ?_
    exact lx_sig (a := [61]) (by decide) (fun _ c r e => by cases e; decide) k10
def GOODS : List (List Nat) := [repT 16 [97], [54, 53, 53, 51, 53], [48], [33, 61], [61, 61], [60, 61], [90, 95, 57], [57, 57, 57, 57]]
theorem goods_v : ([.str (Tx (repT 16 [97])), .str "65535", .str "0", .str "!=", .str "==", .str "<=", .str "Z_9", .str "9999"] : List V) = GOODS.map fun b => .str (Tx b) := by decide +kernel
theorem lx_good {g : List Nat} (h : g ∈ GOODS) (n : Int) : Lx g n none := by
  have run : ∀ {p : List Nat} {kd : Str} {v : V}, p ≠ [] → (∀ x ∈ p, runC x = true) → TokOf p kd v → Lx p n none := fun {p kd v} h0 hp ht => by
    have := lx_run (rest := []) (n := n) (o := none) h0 hp (.inl rfl) ht .nil
    rwa [List.append_nil] at this
  have sg : ∀ {a : List Nat}, a ∈ SIGC → Lx a n none := fun {a} ha => by
    have := lx_sig (rest := []) (n := n) (o := none) ha (fun _ c r e => by cases e) .nil
    rwa [List.append_nil] at this
  simp only [GOODS, List.mem_cons, List.not_mem_nil, or_false] at h
  rcases h with rfl | rfl | rfl | rfl | rfl | rfl | rfl | rfl
  · exact run (by decide) (by decide +kernel) (.name (c := 97) (r := repT 15 [97]) (by decide +kernel) (by decide) (by decide +kernel))
  · exact run (by decide) (by decide +kernel) (tok_num (n := 65535) (by decide) (by decide +kernel))
  · exact run (by decide) (by decide +kernel) (tok_num (n := 0) (by decide) (by decide +kernel))
  · exact sg (by decide)
  · exact sg (by decide)
  · exact sg (by decide)
  · exact run (by decide) (by decide +kernel) (.name (by decide +kernel) (by decide) (by decide +kernel))
  · exact run (by decide) (by decide +kernel) (tok_num (n := 9999) (by decide) (by decide +kernel))
theorem goods_le : ∀ g ∈ GOODS, g.length ≤ 16 := by decide +kernel
def sp_good : Sp := fun vs H Q _ => ∃ (st c : Addr), vs = [.ref st] ∧ StOk st c H ∧ ∀ (b : List Nat) (H' : Hp), b ∈ GOODS → Kp [st, c] H H' → StOk st c H' → Q (.str (Tx b)) H'
theorem c_good {st c : Addr} {H : Hp} {Q : VK} {E : XK} (h1 : StOk st c H) (q : ∀ (b : List Nat) (H' : Hp), b ∈ GOODS → Kp [st, c] H H' → StOk st c H' → Q (.str (Tx b)) H') : sp_good [.ref st] H Q E := ⟨st, c, rfl, h1, q⟩
theorem s_a : Str.ofString "a" = Tx [97] := by decide +kernel
theorem ok_good (T : Glo K mg) (D : Dn K mg "_law_good" s__law_good p__law_good) (G__law_pick : Cal P w K mg base "_law_pick" 2 p__law_pick (sp_pick K)) : Cal P w K mg base "_law_good" 3 p__law_good sp_good := by
  refine D.ok sc__law_good (fun vs H Q E h => ?_) (fun f cdv A outer s H vs Q E hr h => ?_)
  · obtain ⟨_, _, rfl, _⟩ := h
    rfl
  obtain ⟨st, c, rfl, so, q⟩ := h
  refine ⟨_, (pss_one (ps_ret (pe_cal G__law_pick (hr.mono (by walk_at "lev")) rfl (pa_cons (pv 0) (pa_cons (pe_lst (pa_cons (pe_op op_mulN pe_str pe_int) (pa_cons pe_str (pa_cons pe_str (pa_cons pe_str (pa_cons pe_str (pa_cons pe_str (pa_cons pe_str (pa_cons pe_str pa_nil))))))))) pa_nil))))), ?_⟩
  try dsimp only [cxOf, Cx.nox]
  repeat' walk_at "st"
  rw [s_a]
  refine q_mulN (n := 16) rfl (by decide) (by decide) ?_
  repeat' walk_at "st"
  obtain ⟨b, hb, rfl⟩ := bad_v goods_v ej
  exact q b _ hb (by walk_at "kp") so
/-- a text ahead: k newlines -/
def Pre (a : List Nat) : Prop := ∀ (n : Int) (rest : List Nat) (o : Option Int), Lx rest (n + (a.count 10 : Int)) o → Lx (a ++ rest) n o
theorem pre_nil : Pre [] := fun n rest o h => by simpa using h
theorem pre_line {a L : List Nat} (h : Pre a) (hL : L ∈ LINES) : Pre (a ++ L ++ [10]) := fun n rest o k => by
  have hc : L.count 10 = 0 := by
    have : ∀ L ∈ LINES, L.count 10 = 0 := by decide +kernel
    exact this L hL
  rw [List.append_assoc, List.append_assoc]
  refine h n _ o (lx_line hL ?_)
  rw [List.count_append, List.count_append, hc] at k
  have e : (n : Int) + ((a.count 10 + 0 + [10].count 10 : Nat) : Int) = n + (a.count 10 : Int) + 1 := by
    have : ([10] : List Nat).count 10 = 1 := by decide
    rw [this]
    omega
  rw [e] at k
  exact k
theorem lx_spaces {rest : List Nat} {n : Int} {o : Option Int} (k : Lx rest n o) : ∀ m, Lx (repT m [32] ++ rest) n o
  | 0 => by simpa [repT] using k
  | m + 1 => by
    have e : repT (m + 1) [32] = 32 :: repT m [32] := by unfold repT; rw [List.replicate_succ, List.flatten_cons]; rfl
    rw [e, List.cons_append]
    exact .sp (lx_spaces k m)
theorem count_spaces : ∀ m, (repT m [32]).count 10 = 0
  | 0 => by simp [repT]
  | m + 1 => by
    have e : repT (m + 1) [32] = 32 :: repT m [32] := by unfold repT; rw [List.replicate_succ, List.flatten_cons]; rfl
    rw [e, List.count_cons_of_ne (by decide), count_spaces m]
theorem pre_spaces {a : List Nat} (h : Pre a) (m : Nat) : Pre (a ++ repT m [32]) := fun n rest o k => by
  rw [List.append_assoc]
  rw [List.count_append, count_spaces] at k
  exact h n _ o (lx_spaces k m)
def sp_before : Sp := fun vs H Q _ => ∃ (st c : Addr), vs = [.ref st] ∧ StOk st c H ∧ ∀ (a : List Nat) (H' : Hp), Pre a → a.length ≤ 1000 → Kp [st, c] H H' → StOk st c H' → Q (.str (Tx a)) H'
theorem c_before {st c : Addr} {H : Hp} {Q : VK} {E : XK} (h1 : StOk st c H) (q : ∀ (a : List Nat) (H' : Hp), Pre a → a.length ≤ 1000 → Kp [st, c] H H' → StOk st c H' → Q (.str (Tx a)) H') : sp_before [.ref st] H Q E := ⟨st, c, rfl, h1, q⟩
theorem s_nl : Str.ofString "\n" = Tx [10] := by decide +kernel
theorem s_sp : Str.ofString " " = Tx [32] := by decide +kernel
theorem s_em : Str.ofString "" = Tx [] := by decide +kernel
theorem lines_le : ∀ g ∈ LINES, g.length ≤ 10 := by decide +kernel
theorem ok_before (T : Glo K mg) (D : Dn K mg "_law_before" s__law_before p__law_before) (G__law_draw : Cal P w K mg base "_law_draw" 1 p__law_draw sp_draw) (G__law_pick : Cal P w K mg base "_law_pick" 2 p__law_pick (sp_pick K)) : Cal P w K mg base "_law_before" 3 p__law_before sp_before := by
  refine D.ok sc__law_before (fun vs H Q E h => ?_) (fun f cdv A outer s H vs Q E hr h => ?_)
  · obtain ⟨_, _, rfl, _⟩ := h
    rfl
  obtain ⟨st, c, rfl, so, q⟩ := h
  refine ⟨_, (pss_cons (ps_set (i := 1) sc__law_before.nd rfl (by first | exact Or.inl rfl | exact Or.inr rfl) pe_str) (pss_cons (ps_for PassesOwn.never rfl (pi_range1 rfl T.n_range (pa_cons (pe_cal G__law_draw (hr.mono (by walk_at "lev")) rfl (pa_cons (pv 0) (pa_cons pe_int pa_nil))) pa_nil)) (pg_name (i := 2) sc__law_before.nd rfl (by first | exact Or.inl rfl | exact Or.inr rfl)) (pss_one (ps_set (i := 1) sc__law_before.nd rfl (by first | exact Or.inl rfl | exact Or.inr rfl) (pe_op op_addA (pe_op op_addA (pv 1) (pe_cal G__law_pick (hr.mono (by walk_at "lev")) rfl (pa_cons (pv 0) (pa_cons (pe_lst (pa_cons pe_str (pa_cons pe_str (pa_cons pe_str (pa_cons pe_str (pa_cons pe_str (pa_cons pe_str (pa_cons pe_str (pa_cons pe_str pa_nil))))))))) pa_nil)))) pe_str)))) (pss_one (ps_ret (pe_op op_addA (pv 1) (pe_op op_mulN pe_str (pe_cal G__law_draw (hr.mono (by walk_at "lev")) rfl (pa_cons (pv 0) (pa_cons pe_int pa_nil))))))))), ?_⟩
  try dsimp only [cxOf, Cx.nox]
  repeat' walk_at "st"
  obtain ⟨m0, rfl⟩ := Int.eq_ofNat_of_zero_le n0
  have hm9 : m0 < 9 := by omega
  clear n0 n1
  refine w_rng (lo := 0) (n := ((m0 : Nat) : Int).toNat) (fun i σ H' => ∃ (a : List Nat) (y : Option V), σ = [some (.ref st), some (.str (Tx a)), y] ∧ Pre a ∧ a.length ≤ 20 * i ∧ Kp [st, c] H H' ∧ StOk st c H') ⟨[], none, rfl, pre_nil, Nat.zero_le _, by walk_at "kp", so⟩ ?_ ?_
  · rintro i σ H' hi ⟨a, y, rfl, hpre, hl, k2, so2⟩
    rw [Int.toNat_natCast] at hi
    have hi9 : i < 9 := by omega
    repeat' walk_at "st"
    obtain ⟨L, hL, rfl⟩ := bad_v lines_v ej
    have := lines_le L hL
    refine q_addS (by omega) ?_
    repeat' walk_at "st"
    rw [s_nl]
    refine q_addS (by rw [List.length_append]; simp only [List.length_cons, List.length_nil]; omega) ?_
    repeat' walk_at "st"
    exact ⟨_, _, rfl, pre_line hpre hL, by simp only [List.length_append, List.length_cons, List.length_nil]; omega, by walk_at "kp", so⟩
  · rintro σ H' ⟨a, y, rfl, hpre, hl, k2, so2⟩
    rw [Int.toNat_natCast] at hl
    have hl9 : a.length ≤ 160 := by omega
    repeat' walk_at "st"
    rw [s_sp]
    refine q_mulN (n := dn.toNat) (by omega) (by omega) (by decide) ?_
    refine q_addS (by rw [rep_len]; simp only [List.length_cons, List.length_nil]; omega) ?_
    exact q _ _ (pre_spaces hpre _) (by rw [List.length_append, rep_len]; simp only [List.length_cons, List.length_nil]; omega) (by walk_at "kp") so
/-! ### the errors of the law -/
structure Fam (K : PySem.W.Frag) (mg : Str → Option Value) (CT CC CR CL CO CP : Addr) : Prop where
  t : ErrC K mg "TextError" CT "line"
  c : ErrC K mg "CommandError" CC "line"
  r : ErrC K mg "RuleError" CR "rule"
  l : ErrC K mg "PlanError" CL "reason"
  o : ErrC K mg "CodeError" CO "at"
  p : mg "PlacedError" = some (.ref CP)
  ki : ∀ i j, i < 5 → j < 5 → PySem.W.kitOne K (.ref ([CT, CC, CR, CL, CO].getD i 0)) (.ref ([CT, CC, CR, CL, CO].getD j 0)) = some (decide (i = j))
  kv : ∀ i, i < 5 → PySem.W.kitOne K (.ref ([CT, CC, CR, CL, CO].getD i 0)) (.type "ValueError") = some true
  kp : PySem.W.kitOne K (.ref CT) (.ref CP) = some true
  et : PySem.W.exmOne K (.ref CT) (.ref CT) = some true
  ep : ∀ i, i < 5 → PySem.W.exmOne K (.ref ([CT, CC, CR, CL, CO].getD i 0)) (.ref CP) = some true
def tIsX (K : PySem.W.Frag) (a : Addr) (cls : Value) (d : Option Addr) (i : Nat) (c : V) : TE := tCB (rIsX K a cls d) (tCons (tVar i) (tCons (tC c) tNil))
def neg2 (n : Int) : TE := tUn (rU fun i => .int (-i)) (tC (.int n))
section
variable (K : PySem.W.Frag) (CT CC CR CL CO CP : Addr)
def tb__law_outcome : WX → TS := fun W => tAsg (tCallS (sp_tokenizeX CT) (WE W) (tCons (tVar 0) tNil)) (gName 1)
def ts__law_outcome : Addr → Value → Option Addr → TS := fun a cls d =>
  tSeq (tIfS (tOr (tB (tIsX K a cls d 2 (.ref CR))) (tOr (tB (tIsX K a cls d 2 (.ref CC))) (tB (tCB (rIsi K) (tCons (tXfE K a cls d "line" (tVar 2)) (tCons (tC (.ty "bool")) tNil)))))) (tRet (neg2 2)) tNext)
    (tRet (tIf (tAnd (tB (tIsX K a cls d 2 (.ref CP))) (tB (tIsX K a cls d 2 (.ty "ValueError")))) (tXfE K a cls d "line" (tVar 2)) (neg2 2)))
def tWh (n : Int) : TT := tTest (tOp (rEqA K) (tVar 0) (tC (.int n)))
def tb__law_raised : WX → TS := fun W =>
  tSeq (tIfS (tWh K 0) (tRaiseE CT "line" W (tCons (tVar 1) tNil)) tNext) (tSeq (tIfS (tWh K 1) (tRaiseE CC "line" W (tCons (tVar 1) tNil)) tNext) (tSeq (tIfS (tWh K 2) (tRaiseE CR "rule" W (tCons (tVar 1) tNil)) tNext)
    (tSeq (tIfS (tWh K 3) (tRaiseE CL "reason" W (tCons (tVar 1) tNil)) tNext) (tRaiseE CO "at" W (tCons (tVar 1) tNil)))))
def ts__law_raised : Addr → Value → Option Addr → TS := fun a cls d =>
  tSeq (tAsg (tLst (tCons (tIsX K a cls d 3 (.ref CT)) (tCons (tIsX K a cls d 3 (.ref CC)) (tCons (tIsX K a cls d 3 (.ref CR)) tNil)))) (gName 2))
    (tSeq (tAsg (tOp (rAddA K) (tVar 2) (tLst (tCons (tIsX K a cls d 3 (.ref CL)) (tCons (tIsX K a cls d 3 (.ref CO)) (tCons (tIsX K a cls d 3 (.ty "ValueError")) tNil))))) (gName 2))
      (tSeq (tIfS (tTest (tOp (rI0 fun i j => .bl (decide (i < j))) (tVar 0) (tC (.int 2)))) (tRet (tTup (tCons (tVar 2) (tCons (tXfE K a cls d "line" (tVar 3)) tNil)))) tNext)
        (tSeq (tIfS (tWh K 2) (tRet (tTup (tCons (tVar 2) (tCons (tXfE K a cls d "rule" (tVar 3)) tNil)))) tNext)
          (tRet (tTup (tCons (tVar 2) (tCons (tIf (tWh K 3) (tXfE K a cls d "reason" (tVar 3)) (tXfE K a cls d "at" (tVar 3))) tNil)))))))
end
variable {CT CC CR CL CO CP : Addr}
theorem q_isXr {a D dd : Addr} {x fl : Str} {fs : List (Str × V)} {E : Addr} {b : Bool} {H : Hp} {Q : VK} (T : ErrC K mg x D fl) (h : H dd = some (.xd fs)) (e : PySem.W.kitOne K (.ref D) (.ref E) = some b) (q : Q (.bl b) H) : rIsX K a (.ref D) (some dd) [.ref a, .ref E] H Q := q_isX T h (fun _ z => z) e q
theorem q_isXv {a D dd : Addr} {x fl : Str} {fs : List (Str × V)} {H : Hp} {Q : VK} (T : ErrC K mg x D fl) (h : H dd = some (.xd fs)) (e : PySem.W.kitOne K (.ref D) (.type "ValueError") = some true) (q : Q (.bl true) H) : rIsX K a (.ref D) (some dd) [.ref a, .ty "ValueError"] H Q := q_isX T h (fun _ z => z) e q
theorem q_xfX {σ : L2.St} {a D dd : Addr} {x fl : Str} {v : V} {i : Nat} {H : Hp} {Q : VK} (T : ErrC K mg x D fl) (hi : σ[i]? = some (some (.ref a))) (h : H dd = some (.xd [(fl, v)])) (q : Q v H) : tXfE K a (.ref D) (some dd) fl (tVar i) σ H Q := q_xfE hi T.xf T.no h (by simp [List.lookup]) q
theorem r_isX {a : Addr} {cls : Value} {d : Option Addr} {i : Nat} {c v : V} {σ : L2.St} {H : Hp} {Q : VK} (hi : σ[i]? = some (some v)) (q : rIsX K a cls d [v, c] H Q) : tIsX K a cls d i c σ H Q := ⟨v, hi, q⟩
theorem r_neg2 {n : Int} {σ : L2.St} {H : Hp} {Q : VK} (q : Q (.int (-n)) H) : neg2 n σ H Q := ⟨n, rfl, q⟩
local macro_rules | `(tactic| walk_at "own") => `(tactic| first
  | ((with_reducible refine r_isX (v := ?v) ?h ?_); (case h => exact rfl))
  | ((with_reducible refine q_isXr (mg := ?mg) (x := ?x) (D := ?D) (fl := ?fl) (fs := ?fs) (b := ?b) ?t ?h ?e ?_); (case t => assumption); (case h => walk_at "lift"); (case e => assumption))
  | ((with_reducible refine q_isXv (mg := ?mg) (x := ?x) (D := ?D) (fl := ?fl) (fs := ?fs) ?t ?h ?e ?_); (case t => assumption); (case h => walk_at "lift"); (case e => assumption))
  | ((with_reducible refine q_xfX (mg := ?mg) (x := ?x) (v := ?v) ?t ?i ?h ?_); (case t => assumption); (case h => walk_at "lift"); (case i => exact rfl))
  | with_reducible refine r_neg2 ?_)
def outc : Option Int → Int
  | none => 0
  | some m => m
def sp_outcome : Sp := fun vs H Q _ => ∃ (cs : List Nat) (o : Option Int), vs = [.str (Tx cs)] ∧ cs.length ≤ 90000 ∧ Lx cs 1 o ∧ ∀ H', Ex H H' → Q (.int (outc o)) H'
theorem ok_outcome (T : Glo K mg) (D : Dn K mg "_law_outcome" s__law_outcome p__law_outcome) (F : Fam K mg CT CC CR CL CO CP) (G_tokenize : CalX P w K mg base "tokenize" 4 p_tokenize (sp_tokenizeX CT)) : Cal P w K mg base "_law_outcome" 5 p__law_outcome sp_outcome := by
  refine D.ok sc__law_outcome (fun vs H Q E h => ?_) (fun f cdv A outer s H vs Q E hr h => ?_)
  · obtain ⟨_, _, rfl, _⟩ := h
    rfl
  obtain ⟨cs, o, rfl, hl, hlx, q⟩ := h
  have T_TextError := F.t
  have T_RuleError := F.r
  have T_CommandError := F.c
  have g_PlacedError := F.p
  refine ⟨_, pss_cons (ps_try_as (i := 2) (tb := tb__law_outcome CT) (ts := ts__law_outcome K CC CR CP) (Wout := fun _ _ _ _ => False) rfl rfl sc__law_outcome.nd rfl rfl ⟨rfl, by decide, .inl T_TextError.gC⟩ takes0 ?B ?S) (by exact (pss_one (ps_ret (pe_ifExp (pt_val (pe_callB call_isi rfl T.n_isinstance (by decide +kernel) (pa_cons (pv 1) (pa_cons (pe_ty (n := "list") rfl T.n_list (by decide +kernel)) pa_nil)))) pe_int (pe_un un_neg pe_int))))), ?_⟩
  case B => exact fun W pn xe tk po => (pss_one (ps_set (i := 1) sc__law_outcome.nd rfl (by first | exact Or.inl rfl | exact Or.inr rfl) (pe_calX G_tokenize (hr.mono (by walk_at "lev")) rfl tk (pa_cons (pv 0) pa_nil))))
  case S => exact fun a oe cls d pn hz hf => (pss_cons (ps_if (PW.pt (pw_or (pt_val (pe_callB (call_isX hz hf) rfl T.n_isinstance (by decide +kernel) (pa_cons (pv 2) (pa_cons (pe_globR rfl T_RuleError.gC) pa_nil)))) (pw_or (pt_val (pe_callB (call_isX hz hf) rfl T.n_isinstance (by decide +kernel) (pa_cons (pv 2) (pa_cons (pe_globR rfl T_CommandError.gC) pa_nil)))) (pw_or1 (pt_val (pe_callB call_isi rfl T.n_isinstance (by decide +kernel) (pa_cons (pe_xfE hz hf (pv 2)) (pa_cons (pe_ty (n := "bool") rfl T.n_bool (by decide +kernel)) pa_nil)))))))) (pss_one (ps_ret (pe_un un_neg pe_int))) pss_nil) (pss_one (ps_ret (pe_ifExp (PW.pt (pw_and (pt_val (pe_callB (call_isX hz hf) rfl T.n_isinstance (by decide +kernel) (pa_cons (pv 2) (pa_cons (pe_globR rfl g_PlacedError) pa_nil)))) (pw_and1 (pt_val (pe_callB (call_isX hz hf) rfl T.n_isinstance (by decide +kernel) (pa_cons (pv 2) (pa_cons (pe_ty (n := "ValueError") rfl T.n_ValueError (by decide +kernel)) pa_nil))))))) (pe_xfE hz hf (pv 2)) (pe_un un_neg pe_int)))))
  try dsimp only [cxOf, Cx.nox]
  repeat' walk_at "st"
  show tb__law_outcome CT (wAs K (.ref CT) 2 _ _ _) _ _ _
  unfold tb__law_outcome
  repeat' walk_at "st"
  refine c_tokenizeX hl hlx (fun ho p H1 ws hp e1 h1 => ?_) (fun m hm d H1 hd e1 h1 => ?_)
  · subst ho
    repeat' walk_at "st"
    refine q_isi (.lst h1) (kit_ty (r := true) (by decide +kernel)) ?_
    repeat' walk_at "st"
    exact q _ e1
  · subst hm
    refine ⟨true, F.et, fun _ a ha => ?_, fun z => by cases z⟩
    have k1 := F.ki 0 2 (by decide) (by decide)
    have k2 := F.ki 0 1 (by decide) (by decide)
    have k3 := F.kv 0 (by decide)
    have k4 := F.kp
    simp only [List.getD_cons_zero, List.getD_cons_succ, Nat.reduceEqDiff, decide_false] at k1 k2 k3
    unfold ts__law_outcome
    repeat' walk_at "st"
    exact q _ e1
theorem c_outcome {cs : List Nat} {o : Option Int} {H : Hp} {Q : VK} {E : XK} (h1 : cs.length ≤ 90000) (h2 : Lx cs 1 o) (q : ∀ H', Ex H H' → Q (.int (outc o)) H') : sp_outcome [.str (Tx cs)] H Q E := ⟨cs, o, rfl, h1, h2, q⟩
def kinds (k : Int) : List Bool := [decide ((0 : Int) = k), decide ((1 : Int) = k), decide ((2 : Int) = k), decide ((3 : Int) = k), decide ((4 : Int) = k), true]
def sp_raised : Sp := fun vs H Q _ => ∃ (k : Int) (v : V), vs = [.int k, v] ∧ 0 ≤ k ∧ k < 5 ∧ ∀ H' p r, Ex H H' → H' p = some (.tup [.ref r, v]) → H' r = some (.lst ((kinds k).map V.bl)) → Q (.ref p) H'
theorem c_raised {k : Int} {v : V} {H : Hp} {Q : VK} {E : XK} (h1 : 0 ≤ k) (h2 : k < 5) (q : ∀ H' p r, Ex H H' → H' p = some (.tup [.ref r, v]) → H' r = some (.lst ((kinds k).map V.bl)) → Q (.ref p) H') : sp_raised [.int k, v] H Q E := ⟨k, v, rfl, h1, h2, q⟩
theorem q_catL {H : Hp} {Q : VK} {a b : Addr} {xs ys : List V} (h1 : H a = some (.lst xs)) (h2 : H b = some (.lst ys)) (hz : xs.length + ys.length ≤ 100000) (q : ∀ p Hn, H p = none → Ex H Hn → Hn p = some (.lst (xs ++ ys)) → Q (.ref p) Hn) : rAddA K (.ref a) (.ref b) H Q :=
  .inr (.inr (.inl ⟨a, b, xs, ys, rfl, rfl, h1, h2, sl1000 hz, fun p hp => q p _ hp (Ex.mk hp rfl) upd_same⟩))
theorem ok_raised (T : Glo K mg) (D : Dn K mg "_law_raised" s__law_raised p__law_raised) (F : Fam K mg CT CC CR CL CO CP) (M_TextError : MakE P w K mg base CT 1 p_TextError___init__ (sp_einit CT "line")) (M_CommandError : MakE P w K mg base CC 1 p_CommandError___init__ (sp_einit CC "line"))
    (M_RuleError : MakE P w K mg base CR 1 p_RuleError___init__ (sp_einit CR "rule")) (M_PlanError : MakE P w K mg base CL 1 p_PlanError___init__ (sp_einit CL "reason")) (M_CodeError : MakE P w K mg base CO 1 p_CodeError___init__ (sp_einit CO "at")) : Cal P w K mg base "_law_raised" 3 p__law_raised sp_raised := by
  refine D.ok sc__law_raised (fun vs H Q E h => ?_) (fun f cdv A outer s H vs Q E hr h => ?_)
  · obtain ⟨_, _, rfl, _⟩ := h
    rfl
  obtain ⟨k, v, rfl, k0, k5, q⟩ := h
  have T_TextError := F.t
  have T_RuleError := F.r
  have T_CommandError := F.c
  have T_PlanError := F.l
  have T_CodeError := F.o
  have g_PlacedError := F.p
  refine ⟨_, pss_one (ps_try_as (i := 3) (tb := tb__law_raised K CT CC CR CL CO) (ts := ts__law_raised K CT CC CR CL CO) (Wout := fun _ _ _ _ => False) rfl rfl sc__law_raised.nd rfl rfl ⟨rfl, by decide, .inl g_PlacedError⟩ takes0 ?B ?S), ?_⟩
  case B => exact fun W pn xe tk po => (pss_cons (ps_if (pt_cmpR (op_eqA (hu64 hr)) (pv 0) pe_int (nomark _)) (pss_one (ps_err rfl tk T_TextError M_TextError (hr.mono (by walk_at "lev")) rfl (pa_cons (pv 1) pa_nil))) pss_nil) (pss_cons (ps_if (pt_cmpR (op_eqA (hu64 hr)) (pv 0) pe_int (nomark _)) (pss_one (ps_err rfl tk T_CommandError M_CommandError (hr.mono (by walk_at "lev")) rfl (pa_cons (pv 1) pa_nil))) pss_nil) (pss_cons (ps_if (pt_cmpR (op_eqA (hu64 hr)) (pv 0) pe_int (nomark _)) (pss_one (ps_err rfl tk T_RuleError M_RuleError (hr.mono (by walk_at "lev")) rfl (pa_cons (pv 1) pa_nil))) pss_nil) (pss_cons (ps_if (pt_cmpR (op_eqA (hu64 hr)) (pv 0) pe_int (nomark _)) (pss_one (ps_err rfl tk T_PlanError M_PlanError (hr.mono (by walk_at "lev")) rfl (pa_cons (pv 1) pa_nil))) pss_nil) (pss_one (ps_err rfl tk T_CodeError M_CodeError (hr.mono (by walk_at "lev")) rfl (pa_cons (pv 1) pa_nil)))))))
  case S => exact fun a oe cls d pn hz hf => (pss_cons (ps_set (i := 2) sc__law_raised.nd rfl (by first | exact Or.inl rfl | exact Or.inr rfl) (pe_lst (pa_cons (pe_callB (call_isX hz hf) rfl T.n_isinstance (by decide +kernel) (pa_cons (pv 3) (pa_cons (pe_globR rfl T_TextError.gC) pa_nil))) (pa_cons (pe_callB (call_isX hz hf) rfl T.n_isinstance (by decide +kernel) (pa_cons (pv 3) (pa_cons (pe_globR rfl T_CommandError.gC) pa_nil))) (pa_cons (pe_callB (call_isX hz hf) rfl T.n_isinstance (by decide +kernel) (pa_cons (pv 3) (pa_cons (pe_globR rfl T_RuleError.gC) pa_nil))) pa_nil))))) (pss_cons (ps_set (i := 2) sc__law_raised.nd rfl (by first | exact Or.inl rfl | exact Or.inr rfl) (pe_op op_addA (pv 2) (pe_lst (pa_cons (pe_callB (call_isX hz hf) rfl T.n_isinstance (by decide +kernel) (pa_cons (pv 3) (pa_cons (pe_globR rfl T_PlanError.gC) pa_nil))) (pa_cons (pe_callB (call_isX hz hf) rfl T.n_isinstance (by decide +kernel) (pa_cons (pv 3) (pa_cons (pe_globR rfl T_CodeError.gC) pa_nil))) (pa_cons (pe_callB (call_isX hz hf) rfl T.n_isinstance (by decide +kernel) (pa_cons (pv 3) (pa_cons (pe_ty (n := "ValueError") rfl T.n_ValueError (by decide +kernel)) pa_nil))) pa_nil)))))) (pss_cons (ps_if (pt_cmpR op_lt (pv 0) pe_int (nomark _)) (pss_one (ps_ret (pe_tup (pa_cons (pv 2) (pa_cons (pe_xfE hz hf (pv 3)) pa_nil))))) pss_nil) (pss_cons (ps_if (pt_cmpR (op_eqA (hum hr)) (pv 0) pe_int (nomark _)) (pss_one (ps_ret (pe_tup (pa_cons (pv 2) (pa_cons (pe_xfE hz hf (pv 3)) pa_nil))))) pss_nil) (pss_one (ps_ret (pe_tup (pa_cons (pv 2) (pa_cons (pe_ifExp (pt_cmpR (op_eqA (hum hr)) (pv 0) pe_int (nomark _)) (pe_xfE hz hf (pv 3)) (pe_xfE hz hf (pv 3))) pa_nil)))))))))
  try dsimp only [cxOf, Cx.nox]
  show tb__law_raised K CT CC CR CL CO (wAs K (.ref CP) 3 _ _ _) _ _ _
  unfold tb__law_raised tWh
  have hk : k = 0 ∨ k = 1 ∨ k = 2 ∨ k = 3 ∨ k = 4 := by omega
  have ki0 := F.ki 0
  have ki1 := F.ki 1
  have ki2 := F.ki 2
  have ki3 := F.ki 3
  have ki4 := F.ki 4
  have kt : ∀ i, i < 5 → ∀ (D : Addr), D = [CT, CC, CR, CL, CO].getD i 0 → PySem.W.kitOne K (.ref D) (.ref CT) = some (decide (i = 0)) ∧ PySem.W.kitOne K (.ref D) (.ref CC) = some (decide (i = 1)) ∧ PySem.W.kitOne K (.ref D) (.ref CR) = some (decide (i = 2)) ∧
    PySem.W.kitOne K (.ref D) (.ref CL) = some (decide (i = 3)) ∧ PySem.W.kitOne K (.ref D) (.ref CO) = some (decide (i = 4)) ∧ PySem.W.kitOne K (.ref D) (.type "ValueError") = some true ∧ PySem.W.exmOne K (.ref D) (.ref CP) = some true := by
    rintro i hi D rfl
    exact ⟨F.ki i 0 hi (by decide), F.ki i 1 hi (by decide), F.ki i 2 hi (by decide), F.ki i 3 hi (by decide), F.ki i 4 hi (by decide), F.kv i hi, F.ep i hi⟩
  rcases hk with rfl | rfl | rfl | rfl | rfl
  · repeat' walk_at "st"
    obtain ⟨e1, e2, e3, e4, e5, e6, e7⟩ := kt 0 (by decide) CT rfl
    intro d H2 hd ke0 h2
    refine ⟨true, e7, fun _ a ha => ?_, fun z => by cases z⟩
    unfold ts__law_raised tWh
    repeat' walk_at "st"
    rename_i p1 H3 hp1 k1 hn1
    refine q_catL (ke _ _ hn1) hn (by show 3 + 3 ≤ 100000; decide) ?_
    intro p5 H5 hp5 k5' h5
    have h5' : H5 p5 = some (.lst ((kinds 0).map V.bl)) := by rw [h5]; rfl
    clear h5 hn1 hn
    repeat' walk_at "st"
    exact q _ _ _ (by walk_at "ex") hn (by walk_at "lift")
  · repeat' walk_at "st"
    obtain ⟨e1, e2, e3, e4, e5, e6, e7⟩ := kt 1 (by decide) CC rfl
    intro d H2 hd ke0 h2
    refine ⟨true, e7, fun _ a ha => ?_, fun z => by cases z⟩
    unfold ts__law_raised tWh
    repeat' walk_at "st"
    rename_i p1 H3 hp1 k1 hn1
    refine q_catL (ke _ _ hn1) hn (by show 3 + 3 ≤ 100000; decide) ?_
    intro p5 H5 hp5 k5' h5
    have h5' : H5 p5 = some (.lst ((kinds 1).map V.bl)) := by rw [h5]; rfl
    clear h5 hn1 hn
    repeat' walk_at "st"
    exact q _ _ _ (by walk_at "ex") hn (by walk_at "lift")
  · repeat' walk_at "st"
    obtain ⟨e1, e2, e3, e4, e5, e6, e7⟩ := kt 2 (by decide) CR rfl
    intro d H2 hd ke0 h2
    refine ⟨true, e7, fun _ a ha => ?_, fun z => by cases z⟩
    unfold ts__law_raised tWh
    repeat' walk_at "st"
    rename_i p1 H3 hp1 k1 hn1
    refine q_catL (ke _ _ hn1) hn (by show 3 + 3 ≤ 100000; decide) ?_
    intro p5 H5 hp5 k5' h5
    have h5' : H5 p5 = some (.lst ((kinds 2).map V.bl)) := by rw [h5]; rfl
    clear h5 hn1 hn
    repeat' walk_at "st"
    exact q _ _ _ (by walk_at "ex") hn (by walk_at "lift")
  · repeat' walk_at "st"
    obtain ⟨e1, e2, e3, e4, e5, e6, e7⟩ := kt 3 (by decide) CL rfl
    intro d H2 hd ke0 h2
    refine ⟨true, e7, fun _ a ha => ?_, fun z => by cases z⟩
    unfold ts__law_raised tWh
    repeat' walk_at "st"
    rename_i p1 H3 hp1 k1 hn1
    refine q_catL (ke _ _ hn1) hn (by show 3 + 3 ≤ 100000; decide) ?_
    intro p5 H5 hp5 k5' h5
    have h5' : H5 p5 = some (.lst ((kinds 3).map V.bl)) := by rw [h5]; rfl
    clear h5 hn1 hn
    repeat' walk_at "st"
    exact q _ _ _ (by walk_at "ex") hn (by walk_at "lift")
  · repeat' walk_at "st"
    obtain ⟨e1, e2, e3, e4, e5, e6, e7⟩ := kt 4 (by decide) CO rfl
    intro d H2 hd ke0 h2
    refine ⟨true, e7, fun _ a ha => ?_, fun z => by cases z⟩
    unfold ts__law_raised tWh
    repeat' walk_at "st"
    rename_i p1 H3 hp1 k1 hn1
    refine q_catL (ke _ _ hn1) hn (by show 3 + 3 ≤ 100000; decide) ?_
    intro p5 H5 hp5 k5' h5
    have h5' : H5 p5 = some (.lst ((kinds 4).map V.bl)) := by rw [h5]; rfl
    clear h5 hn1 hn
    repeat' walk_at "st"
    exact q _ _ _ (by walk_at "ex") hn (by walk_at "lift")
variable {CT CC CR CL CO CP : Addr}
theorem ex_updF {p : Addr} {o : HO} {H H' : Hp} (k : Ex H H') (hp : H p = none) : Ex H (upd H' p o) := fun a u h => by
  rw [upd_ne (ne_of_none h hp)]
  exact k a u h
theorem lc_str {x : Str} {g : TG} {tt : TT} {te : TE} {vs : List Nat} {σ : L2.St} {H1 : Hp} {D : Addr} {Qd : Hp → Prop} (Pv : Nat → Hp → Prop) (h0 : Pv 0 (upd H1 D (.lst [])))
    (hs : ∀ i c H, x.cps.toList[i]? = some c → Pv i H → g (.str ⟨#[c]⟩) (wipe σ vs) H fun σ2 H2 => wipe σ2 vs = wipe σ vs ∧ tt σ2 H2 fun b H3 =>
      if b = true then te σ2 H3 fun y H4 => ∃ acc, H4 D = some (.lst acc) ∧ acc.length < sizeLine ∧ Pv (i + 1) (upd H4 D (.lst (acc ++ [y]))) else Pv (i + 1) H3) (hd : ∀ H, Pv x.cps.toList.length H → Qd H) :
    ∃ W : Nat → Nat → Hp → Prop, (∃ m, W 0 m (upd H1 D (.lst []))) ∧ ∀ i m H, W i m H →
      ((Its x).stop i H ∧ Qd H) ∨ ((Its x).go i H ∧ ∃ Nx : Hp → Prop, (∀ H', Nx H' → ∃ m', m' < m ∧ W (i + 1) m' H') ∧ ∀ v H', (Its x).yld i H v H' → g v (wipe σ vs) H' fun σ2 H2 => wipe σ2 vs = wipe σ vs ∧ tt σ2 H2 fun b H3 =>
        if b = true then te σ2 H3 fun y H4 => ∃ acc, H4 D = some (.lst acc) ∧ acc.length < sizeLine ∧ Nx (upd H4 D (.lst (acc ++ [y]))) else Nx H3) := by
  have hz : x.cps.toList.length = x.cps.size := Array.length_toList
  refine ⟨fun i m H => m = x.cps.size - i ∧ i ≤ x.cps.size ∧ Pv i H, ⟨x.cps.size, by simp, Nat.zero_le _, h0⟩, ?_⟩
  rintro i m H ⟨rfl, hi, p⟩
  by_cases hlt : i < x.cps.size
  · refine .inr ⟨hlt, Pv (i + 1), fun H' p' => ⟨x.cps.size - (i + 1), by omega, rfl, hlt, p'⟩, fun v H' y => ?_⟩
    obtain ⟨e, c, hc, ev⟩ := y
    subst e
    subst ev
    exact hs i c _ (by rw [Array.getElem?_toList]; exact hc) p
  · have e : i = x.cps.toList.length := by omega
    subst e
    exact .inl ⟨by show x.cps.size ≤ _; omega, hd _ p⟩
theorem c_state {a : Addr} {ns : List Int} {H : Hp} {Q : VK} {E : XK} (h1 : SqL K H a (ns.map V.int)) (h2 : ns.length ≤ 63) (q : ∀ st c H', Ex H H' → H st = none → H c = none → StOk st c H' → Q (.ref st) H') : sp_state K [.ref a] H Q E := ⟨a, ns, rfl, h1, h2, q⟩
def sp_law (K : PySem.W.Frag) : Sp := fun vs H Q _ => ∃ (a : Addr) (ns : List Int), vs = [.ref a] ∧ SqL K H a (ns.map V.int) ∧ ns.length ≤ 63 ∧ ∀ H', Q (.bl true) H'
/-! ### the answers' data -/
def dBools (l : List Bool) : List PyData := l.map PyData.bool
def dAns (l : List Bool) (d : PyData) : PyData := .tuple [.list (dBools l), d]
theorem dp_bools {H : Hp} : ∀ l : List Bool, DpAll K H (l.map V.bl) (dBools l)
  | [] => .nil
  | b :: r => .cons (.bl b) (dp_bools r)
theorem lay_bools : ∀ l : List Bool, PyData.canLayAll0 (dBools l) = true
  | [] => by simp [dBools, PyData.canLayAll0]
  | b :: r => by
    have h := lay_bools r
    simp only [dBools] at h
    simp [dBools, PyData.canLayAll0, PyData.canLay0, h]
theorem depth_bools : ∀ l : List Bool, PyData.depthAll (dBools l) = 0
  | [] => by simp [dBools, PyData.depthAll]
  | b :: r => by
    have h := depth_bools r
    simp only [dBools] at h
    simp [dBools, PyData.depthAll, PyData.depth, h]
/-- a field's value -/
def Item (v : V) (d : PyData) : Prop := (∀ H, Dp K H v d) ∧ d.canLay0 = true ∧ d.depth = 0
theorem item_int (n : Int) : Item (K := K) (.int n) (.int n) := ⟨fun _ => .int n, rfl, by simp [PyData.depth]⟩
theorem str_lay : (PyData.str "size").canLay0 = true ∧ (PyData.str "name").canLay0 = true ∧ (PyData.str "").canLay0 = true := by decide +kernel
theorem item_str {v : V} (h : v ∈ ([.str "size", .str "name", .str ""] : List V)) : ∃ d, Item (K := K) v d := by
  simp only [List.mem_cons, List.not_mem_nil, or_false] at h
  rcases h with rfl | rfl | rfl
  · exact ⟨_, fun _ => .str _, str_lay.1, by simp [PyData.depth]⟩
  · exact ⟨_, fun _ => .str _, str_lay.2.1, by simp [PyData.depth]⟩
  · exact ⟨_, fun _ => .str _, str_lay.2.2, by simp [PyData.depth]⟩
theorem q_neAns {H : Hp} {Q : VK} {a b r s : Addr} {v : V} {d : PyData} {l : List Bool} (i : Item (K := K) v d) (h1 : H a = some (.tup [.ref r, v])) (h2 : H r = some (.lst (l.map V.bl))) (h3 : H b = some (.tup [.ref s, v])) (h4 : H s = some (.lst (l.map V.bl))) (q : Q (.bl false) H) : rNeA K (.ref a) (.ref b) H Q := by
  have hl : (dAns l d).canLay0 = true := by simp [dAns, PyData.canLay0, PyData.canLayAll0, lay_bools, i.2.1]
  have hd : SeqAt.shaped (dAns l d) = true := by
    have h0 := i.2.2
    have h5 := i.2.1
    simp [dAns, SeqAt.shaped, PyData.canLayAll0, PyData.canLay0, PyData.depth, PyData.depthAll, lay_bools, depth_bools, h0, h5]
  exact .inr ⟨_, _, .tup (sqt h1) (.cons (.lst (sql h2) (dp_bools l)) (.cons (i.1 H) .nil)), .tup (sqt h3) (.cons (.lst (sql h4) (dp_bools l)) (.cons (i.1 H) .nil)), hd, hd, by
    show Q (.bl (!(dAns l d).eqv (dAns l d))) H
    rw [SeqAt.eqv_refl _ hl]
    exact q⟩
def BEHS : List (List Nat) := [[], [32, 120], [10, 36], [10, 48, 55], [32, 35, 32, 120], [59]]
theorem behs_v : ([.str "", .str " x", .str "\n$", .str "\n07", .str " # x", .str ";"] : List V) = BEHS.map fun b => .str (Tx b) := by decide +kernel
theorem behs_ok {t : List Nat} (h : t ∈ BEHS) : Beh t ∧ t.length ≤ 10 := by
  simp only [BEHS, List.mem_cons, List.not_mem_nil, or_false] at h
  rcases h with rfl | rfl | rfl | rfl | rfl | rfl
  · exact ⟨.inl rfl, by decide⟩
  · exact ⟨beh32, by decide⟩
  · exact ⟨beh10, by decide⟩
  · exact ⟨beh10, by decide⟩
  · exact ⟨beh32, by decide⟩
  · exact ⟨.inr ⟨_, _, rfl, .inr (.inr rfl)⟩, by decide⟩
theorem lx_bad {b t : List Nat} (h : Bad b) (ht : Beh t) (n : Int) : Lx (b ++ t) n (some n) := by
  obtain ⟨⟨c, r, rfl, h1, h2, h3⟩, no, _, _, pt⟩ := h
  have hp := pt t ht
  rw [List.cons_append] at hp ⊢
  exact .bad h1 h2 h3 (by rw [hp]; exact no)
theorem s_hs : Str.ofString "# " = Tx [35, 32] := by decide +kernel
theorem body_law {fd : FuncData} {fa : Addr} {F : Fun K "law" "law" s_law fa fd} (T : Glo K mg) (G__law_state : Cal P w K mg base "_law_state" 1 p__law_state (sp_state K)) (G__law_draw : Cal P w K mg base "_law_draw" 1 p__law_draw sp_draw) (G__law_pick : Cal P w K mg base "_law_pick" 2 p__law_pick (sp_pick K))
    (G__law_before : Cal P w K mg base "_law_before" 3 p__law_before sp_before) (G__law_bad : Cal P w K mg base "_law_bad" 3 p__law_bad sp_bad) (G__law_good : Cal P w K mg base "_law_good" 3 p__law_good sp_good) (G__law_outcome : Cal P w K mg base "_law_outcome" 5 p__law_outcome sp_outcome)
    (G__law_raised : Cal P w K mg base "_law_raised" 3 p__law_raised sp_raised) : FnOk P w K mg base CX0 6 fa fd ["_law_script"] (sp_law K) := by
  refine F.ok sc_law (fun vs H Q E h => ?_) (fun cdv A outer s H vs Q E hr h => ?_)
  · obtain ⟨_, _, rfl, _⟩ := h
    rfl
  obtain ⟨a, ns, rfl, hs, hl, q⟩ := h
  refine ⟨_, (pss_cons (ps_set (i := 1) sc_law.nd rfl (by first | exact Or.inl rfl | exact Or.inr rfl) (pe_cal G__law_state (hr.mono (by walk_at "lev")) rfl (pa_cons (pv 0) pa_nil))) (pss_cons (ps_for PassesOwn.never rfl (pi_range1 rfl T.n_range (pa_cons pe_int pa_nil)) (pg_name (i := 2) sc_law.nd rfl (by first | exact Or.inl rfl | exact Or.inr rfl)) (pss_cons (ps_set (i := 8) sc_law.nd rfl (by first | exact Or.inl rfl | exact Or.inr rfl) (pe_ifExp (pt_cmpR op_in_seq (pv 2) (pe_tup (pa_cons pe_int (pa_cons pe_int pa_nil))) (by rfl)) (pe_cal G__law_pick (hr.mono (by walk_at "lev")) rfl (pa_cons (pv 1) (pa_cons (pe_lst (pa_cons pe_str (pa_cons pe_str (pa_cons pe_str pa_nil)))) pa_nil))) (pe_op op_addA pe_int (pe_cal G__law_draw (hr.mono (by walk_at "lev")) rfl (pa_cons (pv 1) (pa_cons pe_int pa_nil)))))) (pss_one (ps_if (pt_cmpR (op_neA (hu64 hr)) (pe_cal G__law_raised (hr.mono (by walk_at "lev")) rfl (pa_cons (pv 2) (pa_cons (pv 8) pa_nil))) (pe_tup (pa_cons (pe_op op_addA (pe_lc (own := [("_law_k", 10)]) (tt := tYes) rfl sc_law.nd (pi_range1 rfl T.n_range (pa_cons pe_int pa_nil)) (blkOk_by (N := ["_law_script", "_law_state_here", "_law_which", "_law_before_here", "_law_bad_here", "_law_line", "_law_behind", "_law_good_here", "_law_item", "_law_char", "_law_k"]) (sc := defScope s_law) (by decide +kernel)) (fun _ _ _ _ _ => (pg_name (i := 10) sc_law.nd rfl (by first | exact Or.inl rfl | exact Or.inr rfl))) (fun _ _ _ _ _ => pts_nil) (fun _ _ _ _ _ => (pe_cmpR (op_eqK (K := K) rfl (hu64 hr)) (pv 10) (pv 2) (nomark _)))) (pe_lst (pa_cons pe_bl pa_nil))) (pa_cons (pv 8) pa_nil))) (nomark _)) (pss_one (ps_ret pe_bl)) pss_nil)))) (pss_cons (ps_set (i := 3) sc_law.nd rfl (by first | exact Or.inl rfl | exact Or.inr rfl) (pe_cal G__law_before (hr.mono (by walk_at "lev")) rfl (pa_cons (pv 1) pa_nil))) (pss_cons (ps_set (i := 4) sc_law.nd rfl (by first | exact Or.inl rfl | exact Or.inr rfl) (pe_cal G__law_bad (hr.mono (by walk_at "lev")) rfl (pa_cons (pv 1) pa_nil))) (pss_cons (ps_set (i := 5) sc_law.nd rfl (by first | exact Or.inl rfl | exact Or.inr rfl) (pe_op op_addA pe_int (pe_callB call_lenA rfl T.n_len (by decide +kernel) (pa_cons (pe_lc (own := [("_law_char", 9)]) rfl sc_law.nd (pi_str (pv 3)) (blkOk_by (N := ["_law_script", "_law_state_here", "_law_which", "_law_before_here", "_law_bad_here", "_law_line", "_law_behind", "_law_good_here", "_law_item", "_law_char", "_law_k"]) (sc := defScope s_law) (by decide +kernel)) (fun _ _ _ _ _ => (pg_name (i := 9) sc_law.nd rfl (by first | exact Or.inl rfl | exact Or.inr rfl))) (fun _ _ _ _ _ => (pts_one (pt_cmpR (op_eqK (K := K) rfl (hu64 hr)) (pv 9) pe_str (nomark _)))) (fun _ _ _ _ _ => (pv 9))) pa_nil)))) (pss_cons (ps_set (i := 6) sc_law.nd rfl (by first | exact Or.inl rfl | exact Or.inr rfl) (pe_cal G__law_pick (hr.mono (by walk_at "lev")) rfl (pa_cons (pv 1) (pa_cons (pe_lst (pa_cons pe_str (pa_cons pe_str (pa_cons pe_str (pa_cons pe_str (pa_cons pe_str (pa_cons pe_str pa_nil))))))) pa_nil)))) (pss_cons (ps_if (pt_cmpR (op_neA (hu64 hr)) (pe_cal G__law_outcome (hr.mono (by walk_at "lev")) rfl (pa_cons (pe_op op_addA (pe_op op_addA (pv 3) (pv 4)) (pv 6)) pa_nil)) (pv 5) (nomark _)) (pss_one (ps_ret pe_bl)) pss_nil) (pss_cons (ps_set (i := 7) sc_law.nd rfl (by first | exact Or.inl rfl | exact Or.inr rfl) (pe_cal G__law_good (hr.mono (by walk_at "lev")) rfl (pa_cons (pv 1) pa_nil))) (pss_one (ps_ret (pe_and (pe_cmpR (op_eqA (hu64 hr)) (pe_cal G__law_outcome (hr.mono (by walk_at "lev")) rfl (pa_cons (pe_op op_addA (pv 3) (pv 7)) pa_nil)) pe_int (nomark _)) (pe_one (pe_cmpR (op_eqA (hu64 hr)) (pe_cal G__law_outcome (hr.mono (by walk_at "lev")) rfl (pa_cons (pe_op op_addA (pe_op op_addA (pe_op op_addA (pe_op op_addA (pv 3) pe_str) (pv 4)) pe_str) (pv 7)) pa_nil)) pe_int (nomark _)))))))))))))), ?_⟩
  try dsimp only [cxOf, Cx.nox]
  repeat' walk_at "st"
  refine c_state hs hl ?_
  intro st c H1 e1 hst hc so
  repeat' walk_at "st"
  refine w_rng (lo := 0) (n := 5) (fun i σ H' => ∃ (y2 y8 : Option V), σ = [some (.ref a), some (.ref st), y2, none, none, none, none, none, y8, none, none] ∧ StOk st c H') ?_ ?_ ?_
  · exact ⟨none, none, rfl, so⟩
  · rintro i σ H4 hi ⟨y2, y8, rfl, so4⟩
    have e23 : inV (V.int (0 + (i : Int))) [V.int 2, V.int 3] = decide (i = 2 ∨ i = 3) := by
      have hk : i = 0 ∨ i = 1 ∨ i = 2 ∨ i = 3 ∨ i = 4 := by omega
      rcases hk with rfl | rfl | rfl | rfl | rfl <;> rfl
    by_cases h23 : i = 2 ∨ i = 3
    · rw [decide_eq_true h23] at e23
      repeat' walk_at "st"
      refine q_inTY (sqt hn) (show (true && true && inV (V.int (0 + (i : Int))) [V.int 2, V.int 3]) = true by rw [e23]; rfl) ?_
      repeat' walk_at "st"
      have hit : ∃ d, Item (K := K) v d := item_str (List.mem_of_getElem? ej)
      obtain ⟨dv, hit⟩ := hit
      refine c_raised (by omega) (by omega) (fun H5 p5 r5 k5 h5 h5r => ?_)
      repeat' walk_at "st"
      intro L hL
      refine lc_range (lo := 0) (n := 5) (fun j H2 => Ex H5 H2 ∧ H2 L = some (.lst ((List.range j).map fun (m : Nat) => V.bl (decide ((0 : Int) + m = 0 + (i : Int)))))) ?_ ?_ ?_
      · exact ⟨ex_updF (Ex.refl _) hL, upd_same⟩
      · rintro j H2 hj ⟨e2, h2⟩
        refine ⟨rfl, ?_⟩
        have fin : ∀ b : Bool, b = decide ((0 : Int) + (j : Nat) = 0 + (i : Int)) → ∃ acc, H2 L = some (.lst acc) ∧ acc.length < sizeLine ∧ Ex H5 (upd H2 L (.lst (acc ++ [V.bl b]))) ∧ (upd H2 L (.lst (acc ++ [V.bl b]))) L = some (.lst ((List.range (j + 1)).map fun (m : Nat) => V.bl (decide ((0 : Int) + m = 0 + (i : Int))))) := fun b hb => by
          refine ⟨_, h2, sl1000' (by rw [List.length_map, List.length_range]; omega), ex_updF e2 hL, ?_⟩
          rw [upd_same, List.range_succ, List.map_append, hb]
          rfl
        repeat' walk_at "st"
        · rename_i c1
          exact fin true (decide_eq_true c1).symm
        · rename_i c1
          exact fin false (decide_eq_false c1).symm
      · rintro H2 ⟨e2, h2⟩
        repeat' walk_at "st"
        refine q_catL (ke _ _ h2) hn (by rw [List.length_map, List.length_range]; show 5 + 1 ≤ 100000; decide) ?_
        intro p7 H7 hp7 k7 h7
        have h7' : H7 p7 = some (.lst ((kinds (0 + (i : Int))).map V.bl)) := by rw [h7]; rfl
        clear h7
        repeat' walk_at "st"
        refine q_neAns hit (r := r5) (s := p7) (by walk_at "lift") (by walk_at "lift") hn (by walk_at "lift") ?_
        repeat' walk_at "st"
        exact ⟨_, _, rfl, by walk_at "st_ok"⟩
    · rw [decide_eq_false h23] at e23
      repeat' walk_at "st"
      refine q_inTN (sqt hn) (show (true && true && !inV (V.int (0 + (i : Int))) [V.int 2, V.int 3]) = true by rw [e23]; rfl) ?_
      repeat' walk_at "st"
      have hit : ∃ d, Item (K := K) (.int (1 + dn)) d := ⟨_, item_int _⟩
      obtain ⟨dv, hit⟩ := hit
      refine c_raised (by omega) (by omega) (fun H5 p5 r5 k5 h5 h5r => ?_)
      repeat' walk_at "st"
      intro L hL
      refine lc_range (lo := 0) (n := 5) (fun j H2 => Ex H5 H2 ∧ H2 L = some (.lst ((List.range j).map fun (m : Nat) => V.bl (decide ((0 : Int) + m = 0 + (i : Int)))))) ?_ ?_ ?_
      · exact ⟨ex_updF (Ex.refl _) hL, upd_same⟩
      · rintro j H2 hj ⟨e2, h2⟩
        refine ⟨rfl, ?_⟩
        have fin : ∀ b : Bool, b = decide ((0 : Int) + (j : Nat) = 0 + (i : Int)) → ∃ acc, H2 L = some (.lst acc) ∧ acc.length < sizeLine ∧ Ex H5 (upd H2 L (.lst (acc ++ [V.bl b]))) ∧ (upd H2 L (.lst (acc ++ [V.bl b]))) L = some (.lst ((List.range (j + 1)).map fun (m : Nat) => V.bl (decide ((0 : Int) + m = 0 + (i : Int))))) := fun b hb => by
          refine ⟨_, h2, sl1000' (by rw [List.length_map, List.length_range]; omega), ex_updF e2 hL, ?_⟩
          rw [upd_same, List.range_succ, List.map_append, hb]
          rfl
        repeat' walk_at "st"
        · rename_i c1
          exact fin true (decide_eq_true c1).symm
        · rename_i c1
          exact fin false (decide_eq_false c1).symm
      · rintro H2 ⟨e2, h2⟩
        repeat' walk_at "st"
        refine q_catL (ke _ _ h2) hn (by rw [List.length_map, List.length_range]; show 5 + 1 ≤ 100000; decide) ?_
        intro p7 H7 hp7 k7 h7
        have h7' : H7 p7 = some (.lst ((kinds (0 + (i : Int))).map V.bl)) := by rw [h7]; rfl
        clear h7
        repeat' walk_at "st"
        refine q_neAns hit (r := r5) (s := p7) (by walk_at "lift") (by walk_at "lift") hn (by walk_at "lift") ?_
        repeat' walk_at "st"
        exact ⟨_, _, rfl, by walk_at "st_ok"⟩
  · rintro σ H4 ⟨y2, y8, rfl, so4⟩
    repeat' walk_at "st"
    refine c_before so4 (fun ta H5 hpre hla k5 so5 => ?_)
    repeat' walk_at "st"
    refine c_bad so5 (fun tb H6 hbad k6 so6 => ?_)
    repeat' walk_at "st"
    intro L hL
    refine lc_str (x := Tx ta) (fun i H2 => Ex H6 H2 ∧ ∃ acc : List V, H2 L = some (.lst acc) ∧ (acc.length : Nat) = (ta.take i).count 10) ⟨Ex.mk hL rfl, [], upd_same, rfl⟩ ?_ ?_
    · rintro i ch H2 hc' ⟨e, acc, h2, hlen⟩
      have hc' : ta[i]? = some ch := hc'
      have hcount : acc.length ≤ ta.length := by
        rw [hlen]
        exact Nat.le_trans List.count_le_length (by rw [List.length_take]; omega)
      refine ⟨rfl, ?_⟩
      repeat' walk_at "st"
      · rename_i ec
        have e10 : ch = 10 := by have := T_inj (a := [ch]) (b := [10]) ec; simpa using this
        refine ⟨acc, h2, sl1000' (by omega), ?_, acc ++ [.str ⟨#[ch]⟩], upd_same, ?_⟩
        · intro b u hb
          rw [upd_ne (ne_of_none hb hL)]
          exact e _ _ hb
        · rw [List.take_add_one, hc', List.length_append, hlen, List.count_append, e10]
          rfl
      · rename_i ec
        have n10 : ch ≠ 10 := fun z => ec (by rw [z]; decide +kernel)
        refine ⟨e, acc, h2, ?_⟩
        rw [List.take_add_one, hc', hlen, List.count_append]
        show _ = _ + List.count 10 [ch]
        rw [List.count_cons_of_ne (by exact fun z => n10 (by simpa using z))]
        rfl
    · rintro H2 ⟨e, acc, h2, hlen⟩
      rw [show (Tx ta).cps.toList = ta from rfl, List.take_length] at hlen
      have so2 : StOk st c H2 := st_ex e so6
      repeat' walk_at "st"
      rw [hlen]
      obtain ⟨t, ht, rfl⟩ := bad_v behs_v ej
      obtain ⟨tok, tle⟩ := behs_ok ht
      have ble := hbad.le
      refine q_addS (by omega) ?_
      repeat' walk_at "st"
      refine q_addS (by rw [List.length_append]; omega) ?_
      repeat' walk_at "st"
      refine c_outcome (o := some (1 + (ta.count 10 : Int))) (by rw [List.length_append, List.length_append]; omega) (by rw [List.append_assoc]; exact hpre _ _ _ (lx_bad hbad tok _)) (fun H7 k7 => ?_)
      have so7 := st_ex k7 so
      simp only [outc]
      repeat' walk_at "st"
      refine c_good so7 (fun tg H8 hg k8 so8 => ?_)
      have gle := goods_le tg hg
      repeat' walk_at "st"
      refine q_addS (by omega) ?_
      repeat' walk_at "st"
      refine c_outcome (o := none) (by rw [List.length_append]; omega) (hpre _ _ _ (lx_good hg _)) (fun H9 k9 => ?_)
      simp only [outc]
      repeat' walk_at "st"
      rw [s_hs]
      refine q_addS (by simp only [List.length_cons, List.length_nil]; omega) ?_
      repeat' walk_at "st"
      refine q_addS (by simp only [List.length_append, List.length_cons, List.length_nil]; omega) ?_
      repeat' walk_at "st"
      rw [s_nl]
      refine q_addS (by simp only [List.length_append, List.length_cons, List.length_nil]; omega) ?_
      repeat' walk_at "st"
      refine q_addS (by simp only [List.length_append, List.length_cons, List.length_nil]; omega) ?_
      repeat' walk_at "st"
      refine c_outcome (o := none) (by simp only [List.length_append, List.length_cons, List.length_nil]; omega) ?_ (fun H10 k10 => ?_)
      · have key : ta ++ [35, 32] ++ tb ++ [10] ++ tg = ta ++ 35 :: ((32 :: tb) ++ 10 :: tg) := by simp
        rw [key]
        refine hpre _ _ _ (lx_cm (fun x hx => ?_) (lx_good hg _))
        rcases List.mem_cons.mp hx with rfl | hx
        · decide
        · exact hbad.nl x hx
      · simp only [outc]
        repeat' walk_at "st"
        exact q _
def chkT : List Str → List Value → Bool
  | [], [] => true
  | s :: l, .str z _ :: us => decide (z = s) && chkT l us
  | _, _ => false
theorem chkT_vals : ∀ {l : List Str} {us : List Value}, chkT l us = true → Vals (l.map V.str) us
  | [], [], _ => .nil
  | [], _ :: _, h => by simp [chkT] at h
  | s :: l, us, h => by
    unfold chkT at h
    split at h
    · next e => cases e
    · next e =>
      cases e
      rw [Bool.and_eq_true] at h
      have hz := of_decide_eq_true h.1
      subst hz
      exact .cons ⟨_, rfl⟩ (chkT_vals h.2)
    · cases h
theorem tupk_of {a : Addr} {od : Option Addr} {its : Array Value} {n : Nat} {sl : Array (Option Value)} {l : List Str} (h : K.lookup a = some ⟨.type "tuple", od, .seq its n, sl⟩) (v : chkT l its.toList = true) (hl : l.length ≤ 1000) : TupK K a l := by
  have hv := chkT_vals v
  have e := Vals.length hv
  rw [List.length_map, Array.length_toList] at e
  exact ⟨_, its, n, h, rfl, rfl, sl1000 (Nat.le_trans (Nat.le_of_eq e.symm) (Nat.le_trans hl (by decide))), hv⟩
theorem start2 {x y : Str} (a b : V) : start [x, y] [a, b] = [some a, some b] := rfl
theorem build_law {CT CC CR CL CO CP : Addr} {fd : FuncData} {fa : Addr} (F : Fun K "law" "law" s_law fa fd) (T : Glo K mg) (D_tokenize : Dn K mg "tokenize" s_tokenize p_tokenize) (D_is_reserved : Dn K mg "is_reserved" s_is_reserved p_is_reserved) (D_comment_end : Dn K mg "comment_end" s_comment_end p_comment_end) (D_part_at : Dn K mg "part_at" s_part_at p_part_at) (D_in_run : Dn K mg "in_run" s_in_run p_in_run) (D_token_of : Dn K mg "token_of" s_token_of p_token_of) (D_is_name : Dn K mg "is_name" s_is_name p_is_name) (D_is_number : Dn K mg "is_number" s_is_number p_is_number) (D_all_digits : Dn K mg "all_digits" s_all_digits p_all_digits) (D__law_state : Dn K mg "_law_state" s__law_state p__law_state) (D__law_draw : Dn K mg "_law_draw" s__law_draw p__law_draw) (D__law_pick : Dn K mg "_law_pick" s__law_pick p__law_pick) (D__law_bad : Dn K mg "_law_bad" s__law_bad p__law_bad) (D__law_good : Dn K mg "_law_good" s__law_good p__law_good) (D__law_before : Dn K mg "_law_before" s__law_before p__law_before) (D__law_outcome : Dn K mg "_law_outcome" s__law_outcome p__law_outcome) (D__law_raised : Dn K mg "_law_raised" s__law_raised p__law_raised) (FA : Fam K mg CT CC CR CL CO CP) (E_T : DnE K "TextError.__init__" CT s_TextError___init__ p_TextError___init__) (E_C : DnE K "CommandError.__init__" CC s_CommandError___init__ p_CommandError___init__)
    (E_R : DnE K "RuleError.__init__" CR s_RuleError___init__ p_RuleError___init__) (E_L : DnE K "PlanError.__init__" CL s_PlanError___init__ p_PlanError___init__) (E_O : DnE K "CodeError.__init__" CO s_CodeError___init__ p_CodeError___init__) : FnOk P w K mg base CX0 6 fa fd ["_law_script"] (sp_law K) := by
  have mT : MakE P w K mg base CT 1 p_TextError___init__ (sp_einit CT "line") := ok_einit FA.t E_T sc_TextError___init__ rfl (fun _ _ => rfl) (fun f cdv A outer s H E => (pss_one (ps_ost (pv 0) (pv 1))))
  have mC : MakE P w K mg base CC 1 p_CommandError___init__ (sp_einit CC "line") := ok_einit FA.c E_C sc_CommandError___init__ rfl (fun _ _ => rfl) (fun f cdv A outer s H E => (pss_one (ps_ost (pv 0) (pv 1))))
  have mR : MakE P w K mg base CR 1 p_RuleError___init__ (sp_einit CR "rule") := ok_einit FA.r E_R sc_RuleError___init__ rfl (fun _ _ => rfl) (fun f cdv A outer s H E => (pss_one (ps_ost (pv 0) (pv 1))))
  have mL : MakE P w K mg base CL 1 p_PlanError___init__ (sp_einit CL "reason") := ok_einit FA.l E_L sc_PlanError___init__ rfl (fun _ _ => rfl) (fun f cdv A outer s H E => (pss_one (ps_ost (pv 0) (pv 1))))
  have mO : MakE P w K mg base CO 1 p_CodeError___init__ (sp_einit CO "at") := ok_einit FA.o E_O sc_CodeError___init__ rfl (fun _ _ => rfl) (fun f cdv A outer s H E => (pss_one (ps_ost (pv 0) (pv 1))))
  have ru := ok_run (P := P) (w := w) (base := base) T D_in_run
  have ce := ok_cend (P := P) (w := w) (base := base) T D_comment_end
  have pa := ok_part T D_part_at ru
  have rs := ok_res (P := P) (w := w) (base := base) T D_is_reserved
  have nm := ok_name (P := P) (w := w) (base := base) T D_is_name
  have di := ok_digsB (P := P) (w := w) (base := base) T D_all_digits
  have nu := ok_isnumB T D_is_number di
  have to := ok_tokenX T D_token_of rs nm nu FA.t mT
  have tz := ok_tokenizeX T D_tokenize ce pa to
  have dr := ok_draw (P := P) (w := w) (base := base) T D__law_draw
  have pi := ok_pick T D__law_pick dr
  have ba := ok_bad T D__law_bad dr pi
  have go := ok_good T D__law_good pi
  have be := ok_before T D__law_before dr pi
  have ou := ok_outcome T D__law_outcome FA tz
  have ra := ok_raised (P := P) (w := w) (base := base) T D__law_raised FA mT mC mR mL mO
  exact body_law (F := F) T (ok_state T D__law_state) dr pi be ba go ou ra
theorem dn_mk {h : Heap} {x : Str} {st : Stmt} {ps : List Str} {f : Addr} {oc : Value} {od an : Option Addr} {osl : Array (Option Value)} {kV doc pm cdv ct : Value} (X : K.In h) (G : h.Ns mainGlobals mg) (a : PySem.W.nsIn K mainGlobals x = some (some (.ref f)))
    (l : K.lookup f = some ⟨oc, od, .func (PySem.W.fnOf x x (defArgs st) (defBody st) (defScope st) .none kV doc pm an cdv ct), osl⟩) (c : PySem.W.codeIn K cdv x = true) (k : PySem.W.keepIn K (.ref f) = true)
    (hb : ∀ (kV doc pm : Value) (an : Option Addr) (cdv ct : Value) (us : List Value), us.length = ps.length → bindArgs (PySem.W.fnOf x x (defArgs st) (defBody st) (defScope st) .none kV doc pm an cdv ct) ⟨us, []⟩ = pure (ps.zip us)) : Dn K mg x st ps :=
  ⟨f, _, fun_mk l c k, PySem.W.mg_of X G a, (fun_mk l c k).binds hb⟩
theorem all_mk {l : PySem.W.OpenLaw} {w : World} {K : PySem.W.Frag} {h : Heap} {mg : Str → Option Value} {fa : Addr} (X : K.In h) (G : h.Ns mainGlobals mg) (hfa : mg "law" = some (.ref fa))
    {f0 : Addr} {od0 an0 : Option Addr} {sl0 : Array (Option Value)} {oc0 kV0 dc0 pm0 cd0 ct0 : Value}
    {f1 : Addr} {od1 an1 : Option Addr} {sl1 : Array (Option Value)} {oc1 kV1 dc1 pm1 cd1 ct1 : Value}
    {f2 : Addr} {od2 an2 : Option Addr} {sl2 : Array (Option Value)} {oc2 kV2 dc2 pm2 cd2 ct2 : Value}
    {f3 : Addr} {od3 an3 : Option Addr} {sl3 : Array (Option Value)} {oc3 kV3 dc3 pm3 cd3 ct3 : Value}
    {f4 : Addr} {od4 an4 : Option Addr} {sl4 : Array (Option Value)} {oc4 kV4 dc4 pm4 cd4 ct4 : Value}
    {f5 : Addr} {od5 an5 : Option Addr} {sl5 : Array (Option Value)} {oc5 kV5 dc5 pm5 cd5 ct5 : Value}
    {f6 : Addr} {od6 an6 : Option Addr} {sl6 : Array (Option Value)} {oc6 kV6 dc6 pm6 cd6 ct6 : Value}
    {f7 : Addr} {od7 an7 : Option Addr} {sl7 : Array (Option Value)} {oc7 kV7 dc7 pm7 cd7 ct7 : Value}
    {f8 : Addr} {od8 an8 : Option Addr} {sl8 : Array (Option Value)} {oc8 kV8 dc8 pm8 cd8 ct8 : Value}
    {f9 : Addr} {od9 an9 : Option Addr} {sl9 : Array (Option Value)} {oc9 kV9 dc9 pm9 cd9 ct9 : Value}
    {f10 : Addr} {od10 an10 : Option Addr} {sl10 : Array (Option Value)} {oc10 kV10 dc10 pm10 cd10 ct10 : Value}
    {f11 : Addr} {od11 an11 : Option Addr} {sl11 : Array (Option Value)} {oc11 kV11 dc11 pm11 cd11 ct11 : Value}
    {f12 : Addr} {od12 an12 : Option Addr} {sl12 : Array (Option Value)} {oc12 kV12 dc12 pm12 cd12 ct12 : Value}
    {f13 : Addr} {od13 an13 : Option Addr} {sl13 : Array (Option Value)} {oc13 kV13 dc13 pm13 cd13 ct13 : Value}
    {f14 : Addr} {od14 an14 : Option Addr} {sl14 : Array (Option Value)} {oc14 kV14 dc14 pm14 cd14 ct14 : Value}
    {f15 : Addr} {od15 an15 : Option Addr} {sl15 : Array (Option Value)} {oc15 kV15 dc15 pm15 cd15 ct15 : Value}
    {f16 : Addr} {od16 an16 : Option Addr} {sl16 : Array (Option Value)} {oc16 kV16 dc16 pm16 cd16 ct16 : Value}
    {f17 : Addr} {od17 an17 : Option Addr} {sl17 : Array (Option Value)} {oc17 kV17 dc17 pm17 cd17 ct17 : Value}
    {C_PlacedError : Addr}
    {C_TextError f_TextError___init__ N_TextError : Addr} {nm_TextError q_TextError : Str} {bs_TextError bm_TextError sub_TextError : List Value} {sn_TextError : List Str} {ab_TextError : Bool} {col_TextError : Option Bool} {dd_TextError : Option Addr} {m0_TextError m1_TextError m2_TextError m3_TextError m5_TextError : Option Value} {od_TextError___init__ an_TextError___init__ : Option Addr} {sl_TextError___init__ : Array (Option Value)} {oc_TextError___init__ kV_TextError___init__ dc_TextError___init__ pm_TextError___init__ cd_TextError___init__ ct_TextError___init__ : Value}
    {C_CommandError f_CommandError___init__ N_CommandError : Addr} {nm_CommandError q_CommandError : Str} {bs_CommandError bm_CommandError sub_CommandError : List Value} {sn_CommandError : List Str} {ab_CommandError : Bool} {col_CommandError : Option Bool} {dd_CommandError : Option Addr} {m0_CommandError m1_CommandError m2_CommandError m3_CommandError m5_CommandError : Option Value} {od_CommandError___init__ an_CommandError___init__ : Option Addr} {sl_CommandError___init__ : Array (Option Value)} {oc_CommandError___init__ kV_CommandError___init__ dc_CommandError___init__ pm_CommandError___init__ cd_CommandError___init__ ct_CommandError___init__ : Value}
    {C_RuleError f_RuleError___init__ N_RuleError : Addr} {nm_RuleError q_RuleError : Str} {bs_RuleError bm_RuleError sub_RuleError : List Value} {sn_RuleError : List Str} {ab_RuleError : Bool} {col_RuleError : Option Bool} {dd_RuleError : Option Addr} {m0_RuleError m1_RuleError m2_RuleError m3_RuleError m5_RuleError : Option Value} {od_RuleError___init__ an_RuleError___init__ : Option Addr} {sl_RuleError___init__ : Array (Option Value)} {oc_RuleError___init__ kV_RuleError___init__ dc_RuleError___init__ pm_RuleError___init__ cd_RuleError___init__ ct_RuleError___init__ : Value}
    {C_PlanError f_PlanError___init__ N_PlanError : Addr} {nm_PlanError q_PlanError : Str} {bs_PlanError bm_PlanError sub_PlanError : List Value} {sn_PlanError : List Str} {ab_PlanError : Bool} {col_PlanError : Option Bool} {dd_PlanError : Option Addr} {m0_PlanError m1_PlanError m2_PlanError m3_PlanError m5_PlanError : Option Value} {od_PlanError___init__ an_PlanError___init__ : Option Addr} {sl_PlanError___init__ : Array (Option Value)} {oc_PlanError___init__ kV_PlanError___init__ dc_PlanError___init__ pm_PlanError___init__ cd_PlanError___init__ ct_PlanError___init__ : Value}
    {C_CodeError f_CodeError___init__ N_CodeError : Addr} {nm_CodeError q_CodeError : Str} {bs_CodeError bm_CodeError sub_CodeError : List Value} {sn_CodeError : List Str} {ab_CodeError : Bool} {col_CodeError : Option Bool} {dd_CodeError : Option Addr} {m0_CodeError m1_CodeError m2_CodeError m3_CodeError m5_CodeError : Option Value} {od_CodeError___init__ an_CodeError___init__ : Option Addr} {sl_CodeError___init__ : Array (Option Value)} {oc_CodeError___init__ kV_CodeError___init__ dc_CodeError___init__ pm_CodeError___init__ cd_CodeError___init__ ct_CodeError___init__ : Value}
    (a0 : PySem.W.nsIn K mainGlobals "tokenize" = some (some (.ref f0))) (l0 : K.lookup f0 = some ⟨oc0, od0, .func (PySem.W.fnOf "tokenize" "tokenize" (defArgs s_tokenize) (defBody s_tokenize) (defScope s_tokenize) .none kV0 dc0 pm0 an0 cd0 ct0), sl0⟩) (c0 : PySem.W.codeIn K cd0 "tokenize" = true) (k0 : PySem.W.keepIn K (.ref f0) = true)
    (a1 : PySem.W.nsIn K mainGlobals "is_reserved" = some (some (.ref f1))) (l1 : K.lookup f1 = some ⟨oc1, od1, .func (PySem.W.fnOf "is_reserved" "is_reserved" (defArgs s_is_reserved) (defBody s_is_reserved) (defScope s_is_reserved) .none kV1 dc1 pm1 an1 cd1 ct1), sl1⟩) (c1 : PySem.W.codeIn K cd1 "is_reserved" = true) (k1 : PySem.W.keepIn K (.ref f1) = true)
    (a2 : PySem.W.nsIn K mainGlobals "comment_end" = some (some (.ref f2))) (l2 : K.lookup f2 = some ⟨oc2, od2, .func (PySem.W.fnOf "comment_end" "comment_end" (defArgs s_comment_end) (defBody s_comment_end) (defScope s_comment_end) .none kV2 dc2 pm2 an2 cd2 ct2), sl2⟩) (c2 : PySem.W.codeIn K cd2 "comment_end" = true) (k2 : PySem.W.keepIn K (.ref f2) = true)
    (a3 : PySem.W.nsIn K mainGlobals "part_at" = some (some (.ref f3))) (l3 : K.lookup f3 = some ⟨oc3, od3, .func (PySem.W.fnOf "part_at" "part_at" (defArgs s_part_at) (defBody s_part_at) (defScope s_part_at) .none kV3 dc3 pm3 an3 cd3 ct3), sl3⟩) (c3 : PySem.W.codeIn K cd3 "part_at" = true) (k3 : PySem.W.keepIn K (.ref f3) = true)
    (a4 : PySem.W.nsIn K mainGlobals "in_run" = some (some (.ref f4))) (l4 : K.lookup f4 = some ⟨oc4, od4, .func (PySem.W.fnOf "in_run" "in_run" (defArgs s_in_run) (defBody s_in_run) (defScope s_in_run) .none kV4 dc4 pm4 an4 cd4 ct4), sl4⟩) (c4 : PySem.W.codeIn K cd4 "in_run" = true) (k4 : PySem.W.keepIn K (.ref f4) = true)
    (a5 : PySem.W.nsIn K mainGlobals "token_of" = some (some (.ref f5))) (l5 : K.lookup f5 = some ⟨oc5, od5, .func (PySem.W.fnOf "token_of" "token_of" (defArgs s_token_of) (defBody s_token_of) (defScope s_token_of) .none kV5 dc5 pm5 an5 cd5 ct5), sl5⟩) (c5 : PySem.W.codeIn K cd5 "token_of" = true) (k5 : PySem.W.keepIn K (.ref f5) = true)
    (a6 : PySem.W.nsIn K mainGlobals "is_name" = some (some (.ref f6))) (l6 : K.lookup f6 = some ⟨oc6, od6, .func (PySem.W.fnOf "is_name" "is_name" (defArgs s_is_name) (defBody s_is_name) (defScope s_is_name) .none kV6 dc6 pm6 an6 cd6 ct6), sl6⟩) (c6 : PySem.W.codeIn K cd6 "is_name" = true) (k6 : PySem.W.keepIn K (.ref f6) = true)
    (a7 : PySem.W.nsIn K mainGlobals "is_number" = some (some (.ref f7))) (l7 : K.lookup f7 = some ⟨oc7, od7, .func (PySem.W.fnOf "is_number" "is_number" (defArgs s_is_number) (defBody s_is_number) (defScope s_is_number) .none kV7 dc7 pm7 an7 cd7 ct7), sl7⟩) (c7 : PySem.W.codeIn K cd7 "is_number" = true) (k7 : PySem.W.keepIn K (.ref f7) = true)
    (a8 : PySem.W.nsIn K mainGlobals "all_digits" = some (some (.ref f8))) (l8 : K.lookup f8 = some ⟨oc8, od8, .func (PySem.W.fnOf "all_digits" "all_digits" (defArgs s_all_digits) (defBody s_all_digits) (defScope s_all_digits) .none kV8 dc8 pm8 an8 cd8 ct8), sl8⟩) (c8 : PySem.W.codeIn K cd8 "all_digits" = true) (k8 : PySem.W.keepIn K (.ref f8) = true)
    (a9 : PySem.W.nsIn K mainGlobals "_law_state" = some (some (.ref f9))) (l9 : K.lookup f9 = some ⟨oc9, od9, .func (PySem.W.fnOf "_law_state" "_law_state" (defArgs s__law_state) (defBody s__law_state) (defScope s__law_state) .none kV9 dc9 pm9 an9 cd9 ct9), sl9⟩) (c9 : PySem.W.codeIn K cd9 "_law_state" = true) (k9 : PySem.W.keepIn K (.ref f9) = true)
    (a10 : PySem.W.nsIn K mainGlobals "_law_draw" = some (some (.ref f10))) (l10 : K.lookup f10 = some ⟨oc10, od10, .func (PySem.W.fnOf "_law_draw" "_law_draw" (defArgs s__law_draw) (defBody s__law_draw) (defScope s__law_draw) .none kV10 dc10 pm10 an10 cd10 ct10), sl10⟩) (c10 : PySem.W.codeIn K cd10 "_law_draw" = true) (k10 : PySem.W.keepIn K (.ref f10) = true)
    (a11 : PySem.W.nsIn K mainGlobals "_law_pick" = some (some (.ref f11))) (l11 : K.lookup f11 = some ⟨oc11, od11, .func (PySem.W.fnOf "_law_pick" "_law_pick" (defArgs s__law_pick) (defBody s__law_pick) (defScope s__law_pick) .none kV11 dc11 pm11 an11 cd11 ct11), sl11⟩) (c11 : PySem.W.codeIn K cd11 "_law_pick" = true) (k11 : PySem.W.keepIn K (.ref f11) = true)
    (a12 : PySem.W.nsIn K mainGlobals "_law_bad" = some (some (.ref f12))) (l12 : K.lookup f12 = some ⟨oc12, od12, .func (PySem.W.fnOf "_law_bad" "_law_bad" (defArgs s__law_bad) (defBody s__law_bad) (defScope s__law_bad) .none kV12 dc12 pm12 an12 cd12 ct12), sl12⟩) (c12 : PySem.W.codeIn K cd12 "_law_bad" = true) (k12 : PySem.W.keepIn K (.ref f12) = true)
    (a13 : PySem.W.nsIn K mainGlobals "_law_good" = some (some (.ref f13))) (l13 : K.lookup f13 = some ⟨oc13, od13, .func (PySem.W.fnOf "_law_good" "_law_good" (defArgs s__law_good) (defBody s__law_good) (defScope s__law_good) .none kV13 dc13 pm13 an13 cd13 ct13), sl13⟩) (c13 : PySem.W.codeIn K cd13 "_law_good" = true) (k13 : PySem.W.keepIn K (.ref f13) = true)
    (a14 : PySem.W.nsIn K mainGlobals "_law_before" = some (some (.ref f14))) (l14 : K.lookup f14 = some ⟨oc14, od14, .func (PySem.W.fnOf "_law_before" "_law_before" (defArgs s__law_before) (defBody s__law_before) (defScope s__law_before) .none kV14 dc14 pm14 an14 cd14 ct14), sl14⟩) (c14 : PySem.W.codeIn K cd14 "_law_before" = true) (k14 : PySem.W.keepIn K (.ref f14) = true)
    (a15 : PySem.W.nsIn K mainGlobals "_law_outcome" = some (some (.ref f15))) (l15 : K.lookup f15 = some ⟨oc15, od15, .func (PySem.W.fnOf "_law_outcome" "_law_outcome" (defArgs s__law_outcome) (defBody s__law_outcome) (defScope s__law_outcome) .none kV15 dc15 pm15 an15 cd15 ct15), sl15⟩) (c15 : PySem.W.codeIn K cd15 "_law_outcome" = true) (k15 : PySem.W.keepIn K (.ref f15) = true)
    (a16 : PySem.W.nsIn K mainGlobals "_law_raised" = some (some (.ref f16))) (l16 : K.lookup f16 = some ⟨oc16, od16, .func (PySem.W.fnOf "_law_raised" "_law_raised" (defArgs s__law_raised) (defBody s__law_raised) (defScope s__law_raised) .none kV16 dc16 pm16 an16 cd16 ct16), sl16⟩) (c16 : PySem.W.codeIn K cd16 "_law_raised" = true) (k16 : PySem.W.keepIn K (.ref f16) = true)
    (a17 : PySem.W.nsIn K mainGlobals "law" = some (some (.ref f17))) (l17 : K.lookup f17 = some ⟨oc17, od17, .func (PySem.W.fnOf "law" "law" (defArgs s_law) (defBody s_law) (defScope s_law) .none kV17 dc17 pm17 an17 cd17 ct17), sl17⟩) (c17 : PySem.W.codeIn K cd17 "law" = true) (k17 : PySem.W.keepIn K (.ref f17) = true)
    (aC_PlacedError : PySem.W.nsIn K mainGlobals "PlacedError" = some (some (.ref C_PlacedError))) (eC_PlacedError : PySem.W.subIn K (.ref C_PlacedError) (.type "BaseException") = some true) (iC_PlacedError : PySem.W.isClsIn K C_PlacedError = true) (tC_PlacedError : PySem.W.typeIn K (.ref C_PlacedError) = some (.type "type")) (gnX : PySem.W.specialIn K (.builtin "object.__class__") "__get__" = some (some (.builtin "getset_descriptor.__get__"))) (tkX : PySem.W.takesIn K (.builtin "object.__class__") = some true)
    (aC_TextError : PySem.W.nsIn K mainGlobals "TextError" = some (some (.ref C_TextError))) (xL_TextError : K.lookup C_TextError = some (excClassObj nm_TextError q_TextError C_TextError N_TextError bs_TextError bm_TextError true sn_TextError sub_TextError ab_TextError col_TextError dd_TextError m0_TextError m1_TextError m2_TextError m3_TextError m5_TextError "ValueError.__new__")) (rv_TextError : PySem.HandSPX.refsVE bm_TextError = true) (sa_TextError : PySem.W.findIn K (.ref C_TextError) "__setattr__" = some (some (.builtin "object.__setattr__"))) (ga_TextError : PySem.W.findIn K (.ref C_TextError) "__getattribute__" = some (some (.builtin "BaseException.__getattribute__"))) (gg_TextError : PySem.W.findIn K (.ref C_TextError) "__getattr__" = some none) (no_TextError : PySem.W.findIn K (.ref C_TextError) "line" = some none) (kC_TextError : PySem.W.keepIn K (.ref C_TextError) = true) (eC_TextError : PySem.W.subIn K (.ref C_TextError) (.type "BaseException") = some true) (tC_TextError : PySem.W.typeIn K (.ref C_TextError) = some (.type "type")) (hC_TextError : PySem.W.hasDictIn K C_TextError = true) (cl_TextError : (PySem.W.clsIn K C_TextError).isSome = true) (ca_TextError : PySem.W.findIn K (.ref C_TextError) "__class__" = some (some (.builtin "object.__class__"))) (mo_TextError : PySem.W.mroIn K C_TextError (.type "object") = some true) (ii_TextError : PySem.W.findIn K (.ref C_TextError) "__init__" = some (some (.ref f_TextError___init__))) (ti_TextError : PySem.W.typeIn K (.ref f_TextError___init__) = some (.type "function")) (li_TextError : K.lookup f_TextError___init__ = some ⟨oc_TextError___init__, od_TextError___init__, .func (PySem.W.fnOf "__init__" "TextError.__init__" (defArgs s_TextError___init__) (defBody s_TextError___init__) (defScope s_TextError___init__) .none kV_TextError___init__ dc_TextError___init__ pm_TextError___init__ an_TextError___init__ cd_TextError___init__ ct_TextError___init__), sl_TextError___init__⟩) (ci_TextError : PySem.W.codeIn K cd_TextError___init__ "TextError.__init__" = true) (ki_TextError : PySem.W.keepIn K (.ref f_TextError___init__) = true) (kv_TextError : PySem.W.kitOne K (.ref C_TextError) (.type "ValueError") = some true) (kp_TextError : PySem.W.kitOne K (.ref C_TextError) (.ref C_PlacedError) = some true) (sP_TextError : PySem.W.subIn K (.ref C_TextError) (.ref C_PlacedError) = some true)
    (aC_CommandError : PySem.W.nsIn K mainGlobals "CommandError" = some (some (.ref C_CommandError))) (xL_CommandError : K.lookup C_CommandError = some (excClassObj nm_CommandError q_CommandError C_CommandError N_CommandError bs_CommandError bm_CommandError true sn_CommandError sub_CommandError ab_CommandError col_CommandError dd_CommandError m0_CommandError m1_CommandError m2_CommandError m3_CommandError m5_CommandError "ValueError.__new__")) (rv_CommandError : PySem.HandSPX.refsVE bm_CommandError = true) (sa_CommandError : PySem.W.findIn K (.ref C_CommandError) "__setattr__" = some (some (.builtin "object.__setattr__"))) (ga_CommandError : PySem.W.findIn K (.ref C_CommandError) "__getattribute__" = some (some (.builtin "BaseException.__getattribute__"))) (gg_CommandError : PySem.W.findIn K (.ref C_CommandError) "__getattr__" = some none) (no_CommandError : PySem.W.findIn K (.ref C_CommandError) "line" = some none) (kC_CommandError : PySem.W.keepIn K (.ref C_CommandError) = true) (eC_CommandError : PySem.W.subIn K (.ref C_CommandError) (.type "BaseException") = some true) (tC_CommandError : PySem.W.typeIn K (.ref C_CommandError) = some (.type "type")) (hC_CommandError : PySem.W.hasDictIn K C_CommandError = true) (cl_CommandError : (PySem.W.clsIn K C_CommandError).isSome = true) (ca_CommandError : PySem.W.findIn K (.ref C_CommandError) "__class__" = some (some (.builtin "object.__class__"))) (mo_CommandError : PySem.W.mroIn K C_CommandError (.type "object") = some true) (ii_CommandError : PySem.W.findIn K (.ref C_CommandError) "__init__" = some (some (.ref f_CommandError___init__))) (ti_CommandError : PySem.W.typeIn K (.ref f_CommandError___init__) = some (.type "function")) (li_CommandError : K.lookup f_CommandError___init__ = some ⟨oc_CommandError___init__, od_CommandError___init__, .func (PySem.W.fnOf "__init__" "CommandError.__init__" (defArgs s_CommandError___init__) (defBody s_CommandError___init__) (defScope s_CommandError___init__) .none kV_CommandError___init__ dc_CommandError___init__ pm_CommandError___init__ an_CommandError___init__ cd_CommandError___init__ ct_CommandError___init__), sl_CommandError___init__⟩) (ci_CommandError : PySem.W.codeIn K cd_CommandError___init__ "CommandError.__init__" = true) (ki_CommandError : PySem.W.keepIn K (.ref f_CommandError___init__) = true) (kv_CommandError : PySem.W.kitOne K (.ref C_CommandError) (.type "ValueError") = some true) (kp_CommandError : PySem.W.kitOne K (.ref C_CommandError) (.ref C_PlacedError) = some true) (sP_CommandError : PySem.W.subIn K (.ref C_CommandError) (.ref C_PlacedError) = some true)
    (aC_RuleError : PySem.W.nsIn K mainGlobals "RuleError" = some (some (.ref C_RuleError))) (xL_RuleError : K.lookup C_RuleError = some (excClassObj nm_RuleError q_RuleError C_RuleError N_RuleError bs_RuleError bm_RuleError true sn_RuleError sub_RuleError ab_RuleError col_RuleError dd_RuleError m0_RuleError m1_RuleError m2_RuleError m3_RuleError m5_RuleError "ValueError.__new__")) (rv_RuleError : PySem.HandSPX.refsVE bm_RuleError = true) (sa_RuleError : PySem.W.findIn K (.ref C_RuleError) "__setattr__" = some (some (.builtin "object.__setattr__"))) (ga_RuleError : PySem.W.findIn K (.ref C_RuleError) "__getattribute__" = some (some (.builtin "BaseException.__getattribute__"))) (gg_RuleError : PySem.W.findIn K (.ref C_RuleError) "__getattr__" = some none) (no_RuleError : PySem.W.findIn K (.ref C_RuleError) "rule" = some none) (kC_RuleError : PySem.W.keepIn K (.ref C_RuleError) = true) (eC_RuleError : PySem.W.subIn K (.ref C_RuleError) (.type "BaseException") = some true) (tC_RuleError : PySem.W.typeIn K (.ref C_RuleError) = some (.type "type")) (hC_RuleError : PySem.W.hasDictIn K C_RuleError = true) (cl_RuleError : (PySem.W.clsIn K C_RuleError).isSome = true) (ca_RuleError : PySem.W.findIn K (.ref C_RuleError) "__class__" = some (some (.builtin "object.__class__"))) (mo_RuleError : PySem.W.mroIn K C_RuleError (.type "object") = some true) (ii_RuleError : PySem.W.findIn K (.ref C_RuleError) "__init__" = some (some (.ref f_RuleError___init__))) (ti_RuleError : PySem.W.typeIn K (.ref f_RuleError___init__) = some (.type "function")) (li_RuleError : K.lookup f_RuleError___init__ = some ⟨oc_RuleError___init__, od_RuleError___init__, .func (PySem.W.fnOf "__init__" "RuleError.__init__" (defArgs s_RuleError___init__) (defBody s_RuleError___init__) (defScope s_RuleError___init__) .none kV_RuleError___init__ dc_RuleError___init__ pm_RuleError___init__ an_RuleError___init__ cd_RuleError___init__ ct_RuleError___init__), sl_RuleError___init__⟩) (ci_RuleError : PySem.W.codeIn K cd_RuleError___init__ "RuleError.__init__" = true) (ki_RuleError : PySem.W.keepIn K (.ref f_RuleError___init__) = true) (kv_RuleError : PySem.W.kitOne K (.ref C_RuleError) (.type "ValueError") = some true) (kp_RuleError : PySem.W.kitOne K (.ref C_RuleError) (.ref C_PlacedError) = some true) (sP_RuleError : PySem.W.subIn K (.ref C_RuleError) (.ref C_PlacedError) = some true)
    (aC_PlanError : PySem.W.nsIn K mainGlobals "PlanError" = some (some (.ref C_PlanError))) (xL_PlanError : K.lookup C_PlanError = some (excClassObj nm_PlanError q_PlanError C_PlanError N_PlanError bs_PlanError bm_PlanError true sn_PlanError sub_PlanError ab_PlanError col_PlanError dd_PlanError m0_PlanError m1_PlanError m2_PlanError m3_PlanError m5_PlanError "ValueError.__new__")) (rv_PlanError : PySem.HandSPX.refsVE bm_PlanError = true) (sa_PlanError : PySem.W.findIn K (.ref C_PlanError) "__setattr__" = some (some (.builtin "object.__setattr__"))) (ga_PlanError : PySem.W.findIn K (.ref C_PlanError) "__getattribute__" = some (some (.builtin "BaseException.__getattribute__"))) (gg_PlanError : PySem.W.findIn K (.ref C_PlanError) "__getattr__" = some none) (no_PlanError : PySem.W.findIn K (.ref C_PlanError) "reason" = some none) (kC_PlanError : PySem.W.keepIn K (.ref C_PlanError) = true) (eC_PlanError : PySem.W.subIn K (.ref C_PlanError) (.type "BaseException") = some true) (tC_PlanError : PySem.W.typeIn K (.ref C_PlanError) = some (.type "type")) (hC_PlanError : PySem.W.hasDictIn K C_PlanError = true) (cl_PlanError : (PySem.W.clsIn K C_PlanError).isSome = true) (ca_PlanError : PySem.W.findIn K (.ref C_PlanError) "__class__" = some (some (.builtin "object.__class__"))) (mo_PlanError : PySem.W.mroIn K C_PlanError (.type "object") = some true) (ii_PlanError : PySem.W.findIn K (.ref C_PlanError) "__init__" = some (some (.ref f_PlanError___init__))) (ti_PlanError : PySem.W.typeIn K (.ref f_PlanError___init__) = some (.type "function")) (li_PlanError : K.lookup f_PlanError___init__ = some ⟨oc_PlanError___init__, od_PlanError___init__, .func (PySem.W.fnOf "__init__" "PlanError.__init__" (defArgs s_PlanError___init__) (defBody s_PlanError___init__) (defScope s_PlanError___init__) .none kV_PlanError___init__ dc_PlanError___init__ pm_PlanError___init__ an_PlanError___init__ cd_PlanError___init__ ct_PlanError___init__), sl_PlanError___init__⟩) (ci_PlanError : PySem.W.codeIn K cd_PlanError___init__ "PlanError.__init__" = true) (ki_PlanError : PySem.W.keepIn K (.ref f_PlanError___init__) = true) (kv_PlanError : PySem.W.kitOne K (.ref C_PlanError) (.type "ValueError") = some true) (kp_PlanError : PySem.W.kitOne K (.ref C_PlanError) (.ref C_PlacedError) = some true) (sP_PlanError : PySem.W.subIn K (.ref C_PlanError) (.ref C_PlacedError) = some true)
    (aC_CodeError : PySem.W.nsIn K mainGlobals "CodeError" = some (some (.ref C_CodeError))) (xL_CodeError : K.lookup C_CodeError = some (excClassObj nm_CodeError q_CodeError C_CodeError N_CodeError bs_CodeError bm_CodeError true sn_CodeError sub_CodeError ab_CodeError col_CodeError dd_CodeError m0_CodeError m1_CodeError m2_CodeError m3_CodeError m5_CodeError "ValueError.__new__")) (rv_CodeError : PySem.HandSPX.refsVE bm_CodeError = true) (sa_CodeError : PySem.W.findIn K (.ref C_CodeError) "__setattr__" = some (some (.builtin "object.__setattr__"))) (ga_CodeError : PySem.W.findIn K (.ref C_CodeError) "__getattribute__" = some (some (.builtin "BaseException.__getattribute__"))) (gg_CodeError : PySem.W.findIn K (.ref C_CodeError) "__getattr__" = some none) (no_CodeError : PySem.W.findIn K (.ref C_CodeError) "at" = some none) (kC_CodeError : PySem.W.keepIn K (.ref C_CodeError) = true) (eC_CodeError : PySem.W.subIn K (.ref C_CodeError) (.type "BaseException") = some true) (tC_CodeError : PySem.W.typeIn K (.ref C_CodeError) = some (.type "type")) (hC_CodeError : PySem.W.hasDictIn K C_CodeError = true) (cl_CodeError : (PySem.W.clsIn K C_CodeError).isSome = true) (ca_CodeError : PySem.W.findIn K (.ref C_CodeError) "__class__" = some (some (.builtin "object.__class__"))) (mo_CodeError : PySem.W.mroIn K C_CodeError (.type "object") = some true) (ii_CodeError : PySem.W.findIn K (.ref C_CodeError) "__init__" = some (some (.ref f_CodeError___init__))) (ti_CodeError : PySem.W.typeIn K (.ref f_CodeError___init__) = some (.type "function")) (li_CodeError : K.lookup f_CodeError___init__ = some ⟨oc_CodeError___init__, od_CodeError___init__, .func (PySem.W.fnOf "__init__" "CodeError.__init__" (defArgs s_CodeError___init__) (defBody s_CodeError___init__) (defScope s_CodeError___init__) .none kV_CodeError___init__ dc_CodeError___init__ pm_CodeError___init__ an_CodeError___init__ cd_CodeError___init__ ct_CodeError___init__), sl_CodeError___init__⟩) (ci_CodeError : PySem.W.codeIn K cd_CodeError___init__ "CodeError.__init__" = true) (ki_CodeError : PySem.W.keepIn K (.ref f_CodeError___init__) = true) (kv_CodeError : PySem.W.kitOne K (.ref C_CodeError) (.type "ValueError") = some true) (kp_CodeError : PySem.W.kitOne K (.ref C_CodeError) (.ref C_PlacedError) = some true) (sP_CodeError : PySem.W.subIn K (.ref C_CodeError) (.ref C_PlacedError) = some true)
    (k00X : PySem.W.kitOne K (.ref C_TextError) (.ref C_TextError) = some true)
    (k01X : PySem.W.kitOne K (.ref C_TextError) (.ref C_CommandError) = some false)
    (k02X : PySem.W.kitOne K (.ref C_TextError) (.ref C_RuleError) = some false)
    (k03X : PySem.W.kitOne K (.ref C_TextError) (.ref C_PlanError) = some false)
    (k04X : PySem.W.kitOne K (.ref C_TextError) (.ref C_CodeError) = some false)
    (k10X : PySem.W.kitOne K (.ref C_CommandError) (.ref C_TextError) = some false)
    (k11X : PySem.W.kitOne K (.ref C_CommandError) (.ref C_CommandError) = some true)
    (k12X : PySem.W.kitOne K (.ref C_CommandError) (.ref C_RuleError) = some false)
    (k13X : PySem.W.kitOne K (.ref C_CommandError) (.ref C_PlanError) = some false)
    (k14X : PySem.W.kitOne K (.ref C_CommandError) (.ref C_CodeError) = some false)
    (k20X : PySem.W.kitOne K (.ref C_RuleError) (.ref C_TextError) = some false)
    (k21X : PySem.W.kitOne K (.ref C_RuleError) (.ref C_CommandError) = some false)
    (k22X : PySem.W.kitOne K (.ref C_RuleError) (.ref C_RuleError) = some true)
    (k23X : PySem.W.kitOne K (.ref C_RuleError) (.ref C_PlanError) = some false)
    (k24X : PySem.W.kitOne K (.ref C_RuleError) (.ref C_CodeError) = some false)
    (k30X : PySem.W.kitOne K (.ref C_PlanError) (.ref C_TextError) = some false)
    (k31X : PySem.W.kitOne K (.ref C_PlanError) (.ref C_CommandError) = some false)
    (k32X : PySem.W.kitOne K (.ref C_PlanError) (.ref C_RuleError) = some false)
    (k33X : PySem.W.kitOne K (.ref C_PlanError) (.ref C_PlanError) = some true)
    (k34X : PySem.W.kitOne K (.ref C_PlanError) (.ref C_CodeError) = some false)
    (k40X : PySem.W.kitOne K (.ref C_CodeError) (.ref C_TextError) = some false)
    (k41X : PySem.W.kitOne K (.ref C_CodeError) (.ref C_CommandError) = some false)
    (k42X : PySem.W.kitOne K (.ref C_CodeError) (.ref C_RuleError) = some false)
    (k43X : PySem.W.kitOne K (.ref C_CodeError) (.ref C_PlanError) = some false)
    (k44X : PySem.W.kitOne K (.ref C_CodeError) (.ref C_CodeError) = some true)
    (sS_TextError : PySem.W.subIn K (.ref C_TextError) (.ref C_TextError) = some true)
    (sS_CommandError : PySem.W.subIn K (.ref C_CommandError) (.ref C_CommandError) = some true)
    (sS_RuleError : PySem.W.subIn K (.ref C_RuleError) (.ref C_RuleError) = some true)
    (sS_PlanError : PySem.W.subIn K (.ref C_PlanError) (.ref C_PlanError) = some true)
    (sS_CodeError : PySem.W.subIn K (.ref C_CodeError) (.ref C_CodeError) = some true)
    (z_n_len : PySem.W.nsIn K mainGlobals "len" = some none) (z_n_int : PySem.W.nsIn K mainGlobals "int" = some none) (z_n_str : PySem.W.nsIn K mainGlobals "str" = some none) (z_n_abs : PySem.W.nsIn K mainGlobals "abs" = some none) (z_n_range : PySem.W.nsIn K mainGlobals "range" = some none) (z_n_list : PySem.W.nsIn K mainGlobals "list" = some none) (z_n_ValueError : PySem.W.nsIn K mainGlobals "ValueError" = some none) (z_n_bool : PySem.W.nsIn K mainGlobals "bool" = some none) (z_n_isinstance : PySem.W.nsIn K mainGlobals "isinstance" = some none) {t_c_LETTERS : PySem.Tok} (z_c_LETTERS : PySem.W.nsIn K mainGlobals "LETTERS" = some (some (.str LETs t_c_LETTERS))) {t_c_DIGITS : PySem.Tok} (z_c_DIGITS : PySem.W.nsIn K mainGlobals "DIGITS" = some (some (.str DIGs t_c_DIGITS))) {t_c_LONGEST_NAME : PySem.Tok} (z_c_LONGEST_NAME : PySem.W.nsIn K mainGlobals "LONGEST_NAME" = some (some (.int 16 t_c_LONGEST_NAME))) {t_c_LONGEST_NUMBER : PySem.Tok} (z_c_LONGEST_NUMBER : PySem.W.nsIn K mainGlobals "LONGEST_NUMBER" = some (some (.int 5 t_c_LONGEST_NUMBER))) {t_c_GREATEST_WORD : PySem.Tok} (z_c_GREATEST_WORD : PySem.W.nsIn K mainGlobals "GREATEST_WORD" = some (some (.int 65535 t_c_GREATEST_WORD))) {a_c_RESERVED : Addr}  {it_c_RESERVED : Array Value} {n_c_RESERVED : Nat} {sl_c_RESERVED : Array (Option Value)} (z_c_RESERVED : PySem.W.nsIn K mainGlobals "RESERVED" = some (some (.ref a_c_RESERVED))) (zl_c_RESERVED : K.lookup a_c_RESERVED = some ⟨.type "tuple", none, .seq it_c_RESERVED n_c_RESERVED, sl_c_RESERVED⟩) (zv_c_RESERVED : chkT RES it_c_RESERVED.toList = true) {a_c_SIGNS : Addr}  {it_c_SIGNS : Array Value} {n_c_SIGNS : Nat} {sl_c_SIGNS : Array (Option Value)} (z_c_SIGNS : PySem.W.nsIn K mainGlobals "SIGNS" = some (some (.ref a_c_SIGNS))) (zl_c_SIGNS : K.lookup a_c_SIGNS = some ⟨.type "tuple", none, .seq it_c_SIGNS n_c_SIGNS, sl_c_SIGNS⟩) (zv_c_SIGNS : chkT SIG it_c_SIGNS.toList = true) :
    ∃ fd : FuncData, (∀ (s : Shared) (v : Value), BindsTo s fd ⟨[v], []⟩ [("_law_script", v)]) ∧ ∀ base : Heap, K.In base → base.Ns mainGlobals mg → FnOk l.prog w K mg base CX0 6 fa fd ["_law_script"] (sp_law K) := by
  have e := hfa.symm.trans (PySem.W.mg_of X G a17)
  cases e
  have FL := fun_mk (st := s_law) l17 c17 k17
  have D_tokenize : Dn K mg "tokenize" s_tokenize p_tokenize := dn_mk X G a0 l0 c0 k0 (fun _ _ _ _ _ _ us hl => match us, hl with | [_], _ => rfl)
  have D_is_reserved : Dn K mg "is_reserved" s_is_reserved p_is_reserved := dn_mk X G a1 l1 c1 k1 (fun _ _ _ _ _ _ us hl => match us, hl with | [_], _ => rfl)
  have D_comment_end : Dn K mg "comment_end" s_comment_end p_comment_end := dn_mk X G a2 l2 c2 k2 (fun _ _ _ _ _ _ us hl => match us, hl with | [_, _], _ => rfl)
  have D_part_at : Dn K mg "part_at" s_part_at p_part_at := dn_mk X G a3 l3 c3 k3 (fun _ _ _ _ _ _ us hl => match us, hl with | [_, _], _ => rfl)
  have D_in_run : Dn K mg "in_run" s_in_run p_in_run := dn_mk X G a4 l4 c4 k4 (fun _ _ _ _ _ _ us hl => match us, hl with | [_], _ => rfl)
  have D_token_of : Dn K mg "token_of" s_token_of p_token_of := dn_mk X G a5 l5 c5 k5 (fun _ _ _ _ _ _ us hl => match us, hl with | [_, _], _ => rfl)
  have D_is_name : Dn K mg "is_name" s_is_name p_is_name := dn_mk X G a6 l6 c6 k6 (fun _ _ _ _ _ _ us hl => match us, hl with | [_], _ => rfl)
  have D_is_number : Dn K mg "is_number" s_is_number p_is_number := dn_mk X G a7 l7 c7 k7 (fun _ _ _ _ _ _ us hl => match us, hl with | [_], _ => rfl)
  have D_all_digits : Dn K mg "all_digits" s_all_digits p_all_digits := dn_mk X G a8 l8 c8 k8 (fun _ _ _ _ _ _ us hl => match us, hl with | [_], _ => rfl)
  have D__law_state : Dn K mg "_law_state" s__law_state p__law_state := dn_mk X G a9 l9 c9 k9 (fun _ _ _ _ _ _ us hl => match us, hl with | [_], _ => rfl)
  have D__law_draw : Dn K mg "_law_draw" s__law_draw p__law_draw := dn_mk X G a10 l10 c10 k10 (fun _ _ _ _ _ _ us hl => match us, hl with | [_, _], _ => rfl)
  have D__law_pick : Dn K mg "_law_pick" s__law_pick p__law_pick := dn_mk X G a11 l11 c11 k11 (fun _ _ _ _ _ _ us hl => match us, hl with | [_, _], _ => rfl)
  have D__law_bad : Dn K mg "_law_bad" s__law_bad p__law_bad := dn_mk X G a12 l12 c12 k12 (fun _ _ _ _ _ _ us hl => match us, hl with | [_], _ => rfl)
  have D__law_good : Dn K mg "_law_good" s__law_good p__law_good := dn_mk X G a13 l13 c13 k13 (fun _ _ _ _ _ _ us hl => match us, hl with | [_], _ => rfl)
  have D__law_before : Dn K mg "_law_before" s__law_before p__law_before := dn_mk X G a14 l14 c14 k14 (fun _ _ _ _ _ _ us hl => match us, hl with | [_], _ => rfl)
  have D__law_outcome : Dn K mg "_law_outcome" s__law_outcome p__law_outcome := dn_mk X G a15 l15 c15 k15 (fun _ _ _ _ _ _ us hl => match us, hl with | [_], _ => rfl)
  have D__law_raised : Dn K mg "_law_raised" s__law_raised p__law_raised := dn_mk X G a16 l16 c16 k16 (fun _ _ _ _ _ _ us hl => match us, hl with | [_, _], _ => rfl)
  have T_TextError : ErrC K mg "TextError" C_TextError "line" := ⟨PySem.W.mg_of X G aC_TextError, ⟨⟨nm_TextError, q_TextError, N_TextError, bs_TextError, bm_TextError, sn_TextError, sub_TextError, ab_TextError, col_TextError, dd_TextError, m0_TextError, m1_TextError, m2_TextError, m3_TextError, m5_TextError, xL_TextError, rv_TextError⟩, sa_TextError, eC_TextError, tC_TextError, kC_TextError⟩, ⟨ga_TextError, gg_TextError, eC_TextError, hC_TextError⟩, no_TextError, cl_TextError, ca_TextError, gnX, tkX, mo_TextError⟩
  have F_TextError___init__ := fun_mk (st := s_TextError___init__) li_TextError ci_TextError ki_TextError
  have b_TextError___init__ := F_TextError___init__.binds (ps := p_TextError___init__) fun _ _ _ _ _ _ us hl => match us, hl with | [_, _], _ => rfl
  have D_TextError___init__ : DnE K "TextError.__init__" C_TextError s_TextError___init__ p_TextError___init__ := ⟨_, _, ii_TextError, ti_TextError, F_TextError___init__, b_TextError___init__⟩
  have T_CommandError : ErrC K mg "CommandError" C_CommandError "line" := ⟨PySem.W.mg_of X G aC_CommandError, ⟨⟨nm_CommandError, q_CommandError, N_CommandError, bs_CommandError, bm_CommandError, sn_CommandError, sub_CommandError, ab_CommandError, col_CommandError, dd_CommandError, m0_CommandError, m1_CommandError, m2_CommandError, m3_CommandError, m5_CommandError, xL_CommandError, rv_CommandError⟩, sa_CommandError, eC_CommandError, tC_CommandError, kC_CommandError⟩, ⟨ga_CommandError, gg_CommandError, eC_CommandError, hC_CommandError⟩, no_CommandError, cl_CommandError, ca_CommandError, gnX, tkX, mo_CommandError⟩
  have F_CommandError___init__ := fun_mk (st := s_CommandError___init__) li_CommandError ci_CommandError ki_CommandError
  have b_CommandError___init__ := F_CommandError___init__.binds (ps := p_CommandError___init__) fun _ _ _ _ _ _ us hl => match us, hl with | [_, _], _ => rfl
  have D_CommandError___init__ : DnE K "CommandError.__init__" C_CommandError s_CommandError___init__ p_CommandError___init__ := ⟨_, _, ii_CommandError, ti_CommandError, F_CommandError___init__, b_CommandError___init__⟩
  have T_RuleError : ErrC K mg "RuleError" C_RuleError "rule" := ⟨PySem.W.mg_of X G aC_RuleError, ⟨⟨nm_RuleError, q_RuleError, N_RuleError, bs_RuleError, bm_RuleError, sn_RuleError, sub_RuleError, ab_RuleError, col_RuleError, dd_RuleError, m0_RuleError, m1_RuleError, m2_RuleError, m3_RuleError, m5_RuleError, xL_RuleError, rv_RuleError⟩, sa_RuleError, eC_RuleError, tC_RuleError, kC_RuleError⟩, ⟨ga_RuleError, gg_RuleError, eC_RuleError, hC_RuleError⟩, no_RuleError, cl_RuleError, ca_RuleError, gnX, tkX, mo_RuleError⟩
  have F_RuleError___init__ := fun_mk (st := s_RuleError___init__) li_RuleError ci_RuleError ki_RuleError
  have b_RuleError___init__ := F_RuleError___init__.binds (ps := p_RuleError___init__) fun _ _ _ _ _ _ us hl => match us, hl with | [_, _], _ => rfl
  have D_RuleError___init__ : DnE K "RuleError.__init__" C_RuleError s_RuleError___init__ p_RuleError___init__ := ⟨_, _, ii_RuleError, ti_RuleError, F_RuleError___init__, b_RuleError___init__⟩
  have T_PlanError : ErrC K mg "PlanError" C_PlanError "reason" := ⟨PySem.W.mg_of X G aC_PlanError, ⟨⟨nm_PlanError, q_PlanError, N_PlanError, bs_PlanError, bm_PlanError, sn_PlanError, sub_PlanError, ab_PlanError, col_PlanError, dd_PlanError, m0_PlanError, m1_PlanError, m2_PlanError, m3_PlanError, m5_PlanError, xL_PlanError, rv_PlanError⟩, sa_PlanError, eC_PlanError, tC_PlanError, kC_PlanError⟩, ⟨ga_PlanError, gg_PlanError, eC_PlanError, hC_PlanError⟩, no_PlanError, cl_PlanError, ca_PlanError, gnX, tkX, mo_PlanError⟩
  have F_PlanError___init__ := fun_mk (st := s_PlanError___init__) li_PlanError ci_PlanError ki_PlanError
  have b_PlanError___init__ := F_PlanError___init__.binds (ps := p_PlanError___init__) fun _ _ _ _ _ _ us hl => match us, hl with | [_, _], _ => rfl
  have D_PlanError___init__ : DnE K "PlanError.__init__" C_PlanError s_PlanError___init__ p_PlanError___init__ := ⟨_, _, ii_PlanError, ti_PlanError, F_PlanError___init__, b_PlanError___init__⟩
  have T_CodeError : ErrC K mg "CodeError" C_CodeError "at" := ⟨PySem.W.mg_of X G aC_CodeError, ⟨⟨nm_CodeError, q_CodeError, N_CodeError, bs_CodeError, bm_CodeError, sn_CodeError, sub_CodeError, ab_CodeError, col_CodeError, dd_CodeError, m0_CodeError, m1_CodeError, m2_CodeError, m3_CodeError, m5_CodeError, xL_CodeError, rv_CodeError⟩, sa_CodeError, eC_CodeError, tC_CodeError, kC_CodeError⟩, ⟨ga_CodeError, gg_CodeError, eC_CodeError, hC_CodeError⟩, no_CodeError, cl_CodeError, ca_CodeError, gnX, tkX, mo_CodeError⟩
  have F_CodeError___init__ := fun_mk (st := s_CodeError___init__) li_CodeError ci_CodeError ki_CodeError
  have b_CodeError___init__ := F_CodeError___init__.binds (ps := p_CodeError___init__) fun _ _ _ _ _ _ us hl => match us, hl with | [_, _], _ => rfl
  have D_CodeError___init__ : DnE K "CodeError.__init__" C_CodeError s_CodeError___init__ p_CodeError___init__ := ⟨_, _, ii_CodeError, ti_CodeError, F_CodeError___init__, b_CodeError___init__⟩
  have ki : ∀ i j, i < 5 → j < 5 → PySem.W.kitOne K (.ref ([C_TextError, C_CommandError, C_RuleError, C_PlanError, C_CodeError].getD i 0)) (.ref ([C_TextError, C_CommandError, C_RuleError, C_PlanError, C_CodeError].getD j 0)) = some (decide (i = j)) := by
    intro i j hi hj
    have hi' : i = 0 ∨ i = 1 ∨ i = 2 ∨ i = 3 ∨ i = 4 := by omega
    have hj' : j = 0 ∨ j = 1 ∨ j = 2 ∨ j = 3 ∨ j = 4 := by omega
    rcases hi' with rfl | rfl | rfl | rfl | rfl
    · rcases hj' with rfl | rfl | rfl | rfl | rfl
      · exact k00X
      · exact k01X
      · exact k02X
      · exact k03X
      · exact k04X
    · rcases hj' with rfl | rfl | rfl | rfl | rfl
      · exact k10X
      · exact k11X
      · exact k12X
      · exact k13X
      · exact k14X
    · rcases hj' with rfl | rfl | rfl | rfl | rfl
      · exact k20X
      · exact k21X
      · exact k22X
      · exact k23X
      · exact k24X
    · rcases hj' with rfl | rfl | rfl | rfl | rfl
      · exact k30X
      · exact k31X
      · exact k32X
      · exact k33X
      · exact k34X
    · rcases hj' with rfl | rfl | rfl | rfl | rfl
      · exact k40X
      · exact k41X
      · exact k42X
      · exact k43X
      · exact k44X
  have kv : ∀ i, i < 5 → PySem.W.kitOne K (.ref ([C_TextError, C_CommandError, C_RuleError, C_PlanError, C_CodeError].getD i 0)) (.type "ValueError") = some true := by
    intro i hi
    have hi' : i = 0 ∨ i = 1 ∨ i = 2 ∨ i = 3 ∨ i = 4 := by omega
    rcases hi' with rfl | rfl | rfl | rfl | rfl
    · exact kv_TextError
    · exact kv_CommandError
    · exact kv_RuleError
    · exact kv_PlanError
    · exact kv_CodeError
  have ep : ∀ i, i < 5 → PySem.W.exmOne K (.ref ([C_TextError, C_CommandError, C_RuleError, C_PlanError, C_CodeError].getD i 0)) (.ref C_PlacedError) = some true := by
    intro i hi
    have hi' : i = 0 ∨ i = 1 ∨ i = 2 ∨ i = 3 ∨ i = 4 := by omega
    rcases hi' with rfl | rfl | rfl | rfl | rfl
    · exact exm_own eC_PlacedError iC_PlacedError tC_PlacedError sP_TextError
    · exact exm_own eC_PlacedError iC_PlacedError tC_PlacedError sP_CommandError
    · exact exm_own eC_PlacedError iC_PlacedError tC_PlacedError sP_RuleError
    · exact exm_own eC_PlacedError iC_PlacedError tC_PlacedError sP_PlanError
    · exact exm_own eC_PlacedError iC_PlacedError tC_PlacedError sP_CodeError
  have FA : Fam K mg C_TextError C_CommandError C_RuleError C_PlanError C_CodeError C_PlacedError := ⟨T_TextError, T_CommandError, T_RuleError, T_PlanError, T_CodeError, PySem.W.mg_of X G aC_PlacedError, ki, kv, kp_TextError, exm_own eC_TextError cl_TextError tC_TextError sS_TextError, ep⟩
  have T : Glo K mg := ⟨PySem.W.mg_none_of X G z_n_len, PySem.W.mg_none_of X G z_n_int, PySem.W.mg_none_of X G z_n_str, PySem.W.mg_none_of X G z_n_abs, PySem.W.mg_none_of X G z_n_range, PySem.W.mg_none_of X G z_n_list, PySem.W.mg_none_of X G z_n_ValueError, PySem.W.mg_none_of X G z_n_bool, PySem.W.mg_none_of X G z_n_isinstance, ⟨_, PySem.W.mg_of X G z_c_LETTERS⟩, ⟨_, PySem.W.mg_of X G z_c_DIGITS⟩, ⟨_, PySem.W.mg_of X G z_c_LONGEST_NAME⟩, ⟨_, PySem.W.mg_of X G z_c_LONGEST_NUMBER⟩, ⟨_, PySem.W.mg_of X G z_c_GREATEST_WORD⟩, ⟨_, PySem.W.mg_of X G z_c_RESERVED, tupk_of zl_c_RESERVED zv_c_RESERVED (by decide)⟩, ⟨_, PySem.W.mg_of X G z_c_SIGNS, tupk_of zl_c_SIGNS zv_c_SIGNS (by decide)⟩⟩
  refine ⟨PySem.W.fnOf "law" "law" (defArgs s_law) (defBody s_law) (defScope s_law) .none kV17 dc17 pm17 an17 cd17 ct17, fun s v => .of_eq rfl, fun base _ _ => ?_⟩
  exact build_law FL T D_tokenize D_is_reserved D_comment_end D_part_at D_in_run D_token_of D_is_name D_is_number D_all_digits D__law_state D__law_draw D__law_pick D__law_bad D__law_good D__law_before D__law_outcome D__law_raised FA D_TextError___init__ D_CommandError___init__ D_RuleError___init__ D_PlanError___init__ D_CodeError___init__
theorem walk {l : PySem.W.OpenLaw} {q : Program} {loose : List Str} {XP : (Str → Option Value) → Heap → Prop} {YP : World → Heap → Prop} {d : DefRec} {K : Params → PySem.W.Frag} (hn : l.most = some 63) (hdf : d.params.defaults = [])
    (hY : ∀ (w : World) (h : Heap), YP w h → (K w.params).In h)
    (F : ∀ (w : World) (mg : Str → Option Value) (fa : Addr) (h : Heap), (K w.params).In h → h.Ns mainGlobals mg → mg d.name = some (.ref fa) →
      ∃ fd : FuncData, (∀ (s : Shared) (u : Value), BindsTo s fd ⟨[u], []⟩ [("_law_script", u)]) ∧ ∀ base : Heap, (K w.params).In base → base.Ns mainGlobals mg → FnOk l.prog w (K w.params) mg base CX0 6 fa fd ["_law_script"] (sp_law (K w.params))) :
    PySem.W.WalkO q loose XP YP l.row.toRowW d [] (fun f vs => PySem.call f vs) :=
  L2.walk_of (n := 63) (k := 6) (x := "_law_script") (CX := fun _ => CX0) (sp := fun w => sp_law (K w.params)) hn (by decide) hdf ⟨rfl, by decide, by decide⟩ hY F (fun _ _ a ns hl _ hS => ⟨a, ns, rfl, hS, hl, fun _ => rfl⟩) fun _ _ _ _ _ z => z
end Y
open PySem PySem.W PyProof.Rows
set_option maxRecDepth 100000 in
set_option maxHeartbeats 0 in
theorem PySem.Challenge.cw_placedanyhow_k02_errors_of_tokens_holds : PySem.Challenge.rw_placedanyhow_k02_errors_of_tokens.Holds := by
  w_on; o_law; k_head; (case hw => w_witness2)
  k_fill
  refine Y.walk (l := PySem.Challenge.rw_placedanyhow_k02_errors_of_tokens) rfl rfl (fun w h Y => PySem.W.kIn_of Y) ?F
  case F =>
    intro w mg fa h KX G hmg
    refine' Y.all_mk KX G hmg ?a0 ?l0 ?c0 ?k0 ?a1 ?l1 ?c1 ?k1 ?a2 ?l2 ?c2 ?k2 ?a3 ?l3 ?c3 ?k3 ?a4 ?l4 ?c4 ?k4 ?a5 ?l5 ?c5 ?k5 ?a6 ?l6 ?c6 ?k6 ?a7 ?l7 ?c7 ?k7 ?a8 ?l8 ?c8 ?k8 ?a9 ?l9 ?c9 ?k9 ?a10 ?l10 ?c10 ?k10 ?a11 ?l11 ?c11 ?k11 ?a12 ?l12 ?c12 ?k12 ?a13 ?l13 ?c13 ?k13 ?a14 ?l14 ?c14 ?k14 ?a15 ?l15 ?c15 ?k15 ?a16 ?l16 ?c16 ?k16 ?a17 ?l17 ?c17 ?k17 ?aC_PlacedError ?eC_PlacedError ?iC_PlacedError ?tC_PlacedError ?gnX ?tkX ?aC_TextError ?xL_TextError ?rv_TextError ?sa_TextError ?ga_TextError ?gg_TextError ?no_TextError ?kC_TextError ?eC_TextError ?tC_TextError ?hC_TextError ?cl_TextError ?ca_TextError ?mo_TextError ?ii_TextError ?ti_TextError ?li_TextError ?ci_TextError ?ki_TextError ?kv_TextError ?kp_TextError ?sP_TextError ?aC_CommandError ?xL_CommandError ?rv_CommandError ?sa_CommandError ?ga_CommandError ?gg_CommandError ?no_CommandError ?kC_CommandError ?eC_CommandError ?tC_CommandError ?hC_CommandError ?cl_CommandError ?ca_CommandError ?mo_CommandError ?ii_CommandError ?ti_CommandError ?li_CommandError ?ci_CommandError ?ki_CommandError ?kv_CommandError ?kp_CommandError ?sP_CommandError ?aC_RuleError ?xL_RuleError ?rv_RuleError ?sa_RuleError ?ga_RuleError ?gg_RuleError ?no_RuleError ?kC_RuleError ?eC_RuleError ?tC_RuleError ?hC_RuleError ?cl_RuleError ?ca_RuleError ?mo_RuleError ?ii_RuleError ?ti_RuleError ?li_RuleError ?ci_RuleError ?ki_RuleError ?kv_RuleError ?kp_RuleError ?sP_RuleError ?aC_PlanError ?xL_PlanError ?rv_PlanError ?sa_PlanError ?ga_PlanError ?gg_PlanError ?no_PlanError ?kC_PlanError ?eC_PlanError ?tC_PlanError ?hC_PlanError ?cl_PlanError ?ca_PlanError ?mo_PlanError ?ii_PlanError ?ti_PlanError ?li_PlanError ?ci_PlanError ?ki_PlanError ?kv_PlanError ?kp_PlanError ?sP_PlanError ?aC_CodeError ?xL_CodeError ?rv_CodeError ?sa_CodeError ?ga_CodeError ?gg_CodeError ?no_CodeError ?kC_CodeError ?eC_CodeError ?tC_CodeError ?hC_CodeError ?cl_CodeError ?ca_CodeError ?mo_CodeError ?ii_CodeError ?ti_CodeError ?li_CodeError ?ci_CodeError ?ki_CodeError ?kv_CodeError ?kp_CodeError ?sP_CodeError ?k00X ?k01X ?k02X ?k03X ?k04X ?k10X ?k11X ?k12X ?k13X ?k14X ?k20X ?k21X ?k22X ?k23X ?k24X ?k30X ?k31X ?k32X ?k33X ?k34X ?k40X ?k41X ?k42X ?k43X ?k44X ?sS_TextError ?sS_CommandError ?sS_RuleError ?sS_PlanError ?sS_CodeError ?z_n_len ?z_n_int ?z_n_str ?z_n_abs ?z_n_range ?z_n_list ?z_n_ValueError ?z_n_bool ?z_n_isinstance ?z_c_LETTERS ?z_c_DIGITS ?z_c_LONGEST_NAME ?z_c_LONGEST_NUMBER ?z_c_GREATEST_WORD ?z_c_RESERVED ?zl_c_RESERVED ?zv_c_RESERVED ?z_c_SIGNS ?zl_c_SIGNS ?zv_c_SIGNS
    (case a0 => k_is); (case l0 => k_is); (case c0 => k_is); (case k0 => k_is)
    (case a1 => k_is); (case l1 => k_is); (case c1 => k_is); (case k1 => k_is)
    (case a2 => k_is); (case l2 => k_is); (case c2 => k_is); (case k2 => k_is)
    (case a3 => k_is); (case l3 => k_is); (case c3 => k_is); (case k3 => k_is)
    (case a4 => k_is); (case l4 => k_is); (case c4 => k_is); (case k4 => k_is)
    (case a5 => k_is); (case l5 => k_is); (case c5 => k_is); (case k5 => k_is)
    (case a6 => k_is); (case l6 => k_is); (case c6 => k_is); (case k6 => k_is)
    (case a7 => k_is); (case l7 => k_is); (case c7 => k_is); (case k7 => k_is)
    (case a8 => k_is); (case l8 => k_is); (case c8 => k_is); (case k8 => k_is)
    (case a9 => k_is); (case l9 => k_is); (case c9 => k_is); (case k9 => k_is)
    (case a10 => k_is); (case l10 => k_is); (case c10 => k_is); (case k10 => k_is)
    (case a11 => k_is); (case l11 => k_is); (case c11 => k_is); (case k11 => k_is)
    (case a12 => k_is); (case l12 => k_is); (case c12 => k_is); (case k12 => k_is)
    (case a13 => k_is); (case l13 => k_is); (case c13 => k_is); (case k13 => k_is)
    (case a14 => k_is); (case l14 => k_is); (case c14 => k_is); (case k14 => k_is)
    (case a15 => k_is); (case l15 => k_is); (case c15 => k_is); (case k15 => k_is)
    (case a16 => k_is); (case l16 => k_is); (case c16 => k_is); (case k16 => k_is)
    (case a17 => k_is); (case l17 => k_is); (case c17 => k_is); (case k17 => k_is)
    (case aC_PlacedError => first | k_is | rfl)
    (case eC_PlacedError => first | k_is | rfl)
    (case iC_PlacedError => first | k_is | rfl)
    (case tC_PlacedError => first | k_is | rfl)
    (case gnX => first | k_is | rfl)
    (case tkX => first | k_is | rfl)
    (case aC_TextError => first | k_is | rfl)
    (case xL_TextError => first | k_is | rfl)
    (case rv_TextError => rfl)
    (case sa_TextError => first | k_is | rfl)
    (case ga_TextError => first | k_is | rfl)
    (case gg_TextError => first | k_is | rfl)
    (case no_TextError => first | k_is | rfl)
    (case kC_TextError => first | k_is | rfl)
    (case eC_TextError => first | k_is | rfl)
    (case tC_TextError => first | k_is | rfl)
    (case hC_TextError => first | k_is | rfl)
    (case cl_TextError => first | k_is | rfl)
    (case ca_TextError => first | k_is | rfl)
    (case mo_TextError => first | k_is | rfl)
    (case ii_TextError => first | k_is | rfl)
    (case ti_TextError => first | k_is | rfl)
    (case li_TextError => first | k_is | rfl)
    (case ci_TextError => first | k_is | rfl)
    (case ki_TextError => first | k_is | rfl)
    (case kv_TextError => first | k_is | rfl)
    (case kp_TextError => first | k_is | rfl)
    (case sP_TextError => first | k_is | rfl)
    (case aC_CommandError => first | k_is | rfl)
    (case xL_CommandError => first | k_is | rfl)
    (case rv_CommandError => rfl)
    (case sa_CommandError => first | k_is | rfl)
    (case ga_CommandError => first | k_is | rfl)
    (case gg_CommandError => first | k_is | rfl)
    (case no_CommandError => first | k_is | rfl)
    (case kC_CommandError => first | k_is | rfl)
    (case eC_CommandError => first | k_is | rfl)
    (case tC_CommandError => first | k_is | rfl)
    (case hC_CommandError => first | k_is | rfl)
    (case cl_CommandError => first | k_is | rfl)
    (case ca_CommandError => first | k_is | rfl)
    (case mo_CommandError => first | k_is | rfl)
    (case ii_CommandError => first | k_is | rfl)
    (case ti_CommandError => first | k_is | rfl)
    (case li_CommandError => first | k_is | rfl)
    (case ci_CommandError => first | k_is | rfl)
    (case ki_CommandError => first | k_is | rfl)
    (case kv_CommandError => first | k_is | rfl)
    (case kp_CommandError => first | k_is | rfl)
    (case sP_CommandError => first | k_is | rfl)
    (case aC_RuleError => first | k_is | rfl)
    (case xL_RuleError => first | k_is | rfl)
    (case rv_RuleError => rfl)
    (case sa_RuleError => first | k_is | rfl)
    (case ga_RuleError => first | k_is | rfl)
    (case gg_RuleError => first | k_is | rfl)
    (case no_RuleError => first | k_is | rfl)
    (case kC_RuleError => first | k_is | rfl)
    (case eC_RuleError => first | k_is | rfl)
    (case tC_RuleError => first | k_is | rfl)
    (case hC_RuleError => first | k_is | rfl)
    (case cl_RuleError => first | k_is | rfl)
    (case ca_RuleError => first | k_is | rfl)
    (case mo_RuleError => first | k_is | rfl)
    (case ii_RuleError => first | k_is | rfl)
    (case ti_RuleError => first | k_is | rfl)
    (case li_RuleError => first | k_is | rfl)
    (case ci_RuleError => first | k_is | rfl)
    (case ki_RuleError => first | k_is | rfl)
    (case kv_RuleError => first | k_is | rfl)
    (case kp_RuleError => first | k_is | rfl)
    (case sP_RuleError => first | k_is | rfl)
    (case aC_PlanError => first | k_is | rfl)
    (case xL_PlanError => first | k_is | rfl)
    (case rv_PlanError => rfl)
    (case sa_PlanError => first | k_is | rfl)
    (case ga_PlanError => first | k_is | rfl)
    (case gg_PlanError => first | k_is | rfl)
    (case no_PlanError => first | k_is | rfl)
    (case kC_PlanError => first | k_is | rfl)
    (case eC_PlanError => first | k_is | rfl)
    (case tC_PlanError => first | k_is | rfl)
    (case hC_PlanError => first | k_is | rfl)
    (case cl_PlanError => first | k_is | rfl)
    (case ca_PlanError => first | k_is | rfl)
    (case mo_PlanError => first | k_is | rfl)
    (case ii_PlanError => first | k_is | rfl)
    (case ti_PlanError => first | k_is | rfl)
    (case li_PlanError => first | k_is | rfl)
    (case ci_PlanError => first | k_is | rfl)
    (case ki_PlanError => first | k_is | rfl)
    (case kv_PlanError => first | k_is | rfl)
    (case kp_PlanError => first | k_is | rfl)
    (case sP_PlanError => first | k_is | rfl)
    (case aC_CodeError => first | k_is | rfl)
    (case xL_CodeError => first | k_is | rfl)
    (case rv_CodeError => rfl)
    (case sa_CodeError => first | k_is | rfl)
    (case ga_CodeError => first | k_is | rfl)
    (case gg_CodeError => first | k_is | rfl)
    (case no_CodeError => first | k_is | rfl)
    (case kC_CodeError => first | k_is | rfl)
    (case eC_CodeError => first | k_is | rfl)
    (case tC_CodeError => first | k_is | rfl)
    (case hC_CodeError => first | k_is | rfl)
    (case cl_CodeError => first | k_is | rfl)
    (case ca_CodeError => first | k_is | rfl)
    (case mo_CodeError => first | k_is | rfl)
    (case ii_CodeError => first | k_is | rfl)
    (case ti_CodeError => first | k_is | rfl)
    (case li_CodeError => first | k_is | rfl)
    (case ci_CodeError => first | k_is | rfl)
    (case ki_CodeError => first | k_is | rfl)
    (case kv_CodeError => first | k_is | rfl)
    (case kp_CodeError => first | k_is | rfl)
    (case sP_CodeError => first | k_is | rfl)
    (case k00X => first | k_is | rfl)
    (case k01X => first | k_is | rfl)
    (case k02X => first | k_is | rfl)
    (case k03X => first | k_is | rfl)
    (case k04X => first | k_is | rfl)
    (case k10X => first | k_is | rfl)
    (case k11X => first | k_is | rfl)
    (case k12X => first | k_is | rfl)
    (case k13X => first | k_is | rfl)
    (case k14X => first | k_is | rfl)
    (case k20X => first | k_is | rfl)
    (case k21X => first | k_is | rfl)
    (case k22X => first | k_is | rfl)
    (case k23X => first | k_is | rfl)
    (case k24X => first | k_is | rfl)
    (case k30X => first | k_is | rfl)
    (case k31X => first | k_is | rfl)
    (case k32X => first | k_is | rfl)
    (case k33X => first | k_is | rfl)
    (case k34X => first | k_is | rfl)
    (case k40X => first | k_is | rfl)
    (case k41X => first | k_is | rfl)
    (case k42X => first | k_is | rfl)
    (case k43X => first | k_is | rfl)
    (case k44X => first | k_is | rfl)
    (case sS_TextError => first | k_is | rfl)
    (case sS_CommandError => first | k_is | rfl)
    (case sS_RuleError => first | k_is | rfl)
    (case sS_PlanError => first | k_is | rfl)
    (case sS_CodeError => first | k_is | rfl)
    (case z_n_len => k_is)
    (case z_n_int => k_is)
    (case z_n_str => k_is)
    (case z_n_abs => k_is)
    (case z_n_range => k_is)
    (case z_n_list => k_is)
    (case z_n_ValueError => k_is)
    (case z_n_bool => k_is)
    (case z_n_isinstance => k_is)
    (case z_c_LETTERS => k_is)
    (case z_c_DIGITS => k_is)
    (case z_c_LONGEST_NAME => k_is)
    (case z_c_LONGEST_NUMBER => k_is)
    (case z_c_GREATEST_WORD => k_is)
    (case z_c_RESERVED => k_is)
    (case zl_c_RESERVED => k_is)
    (case zv_c_RESERVED => rfl)
    (case z_c_SIGNS => k_is)
    (case zl_c_SIGNS => k_is)
    (case zv_c_SIGNS => rfl)
#print axioms PySem.Challenge.cw_placedanyhow_k02_errors_of_tokens_holds
